import PyProof.Rows.All
import Wide.All
import OpenK.AllK
import Wide.FinOn
import Lean
import PyProof.EqAt
import PyProof.EqKinds
import PyProof.TupleCall
import PyProof.Rows.TmSorted
import PyProof.StrBlockL
import PyProof.Rows.StrMeet
import PySem.Challenge.RW_shapekin_k13_whole_a_book
set_option Elab.async false
set_option linter.all false
set_option maxRecDepth 100000
set_option maxHeartbeats 4000000
local macro_rules | `(tactic| omega) => `(tactic| lia)
theorem PySem.W.Fast.te8509100670037795214 : True := trivial
noncomputable def PySem.W.Fast.tw9012472588514760622 : PySem.Program := PySem.Challenge.pw_shapekin_k13_whole_a_book
theorem PySem.W.Fast.te9012472588514760622 : PySem.Challenge.pw_shapekin_k13_whole_a_book = PySem.W.Fast.tw9012472588514760622 := rfl
theorem hld {p : Prop} (h : ∀ G : Prop, (p -> G) -> G) : p := h p id
namespace L2
open PySem PySem.Spec PyProof.Rows
abbrev Key := Sum Int Str
def keyIs : Key -> Value -> Bool
  | .inl k, v => Value.isInt k v
  | .inr x, v => Value.isStrOf x v
def keyH (w : World) : Key -> Int
  | .inl k => hashInt k
  | .inr x => hashStr w x
theorem keyIs_shape : ∀ {k : Key} {v : Value}, keyIs k v = true -> (∃ i t, k = Sum.inl i /\ v = Value.int i t) \/ (∃ x t, k = Sum.inr x /\ v = Value.str x t)
  | .inl i, v, h => by
    obtain ⟨t, e⟩ := Value.isInt_shape (k := i) (v := v) h; exact .inl ⟨i, t, rfl, e⟩
  | .inr x, v, h => by
    obtain ⟨t, e⟩ := Value.isStrOf_shape (x := x) (v := v) h; exact .inr ⟨x, t, rfl, e⟩
theorem keyIs_int (i : Int) (t : Tok) : keyIs (.inl i) (.int i t) = true := by simp [keyIs, Value.isInt]
theorem keyIs_str (x : Str) (t : Tok) : keyIs (.inr x) (.str x t) = true := by simp [keyIs, Value.isStrOf]
theorem key_ll (a b : Int) : decide ((Sum.inl a : Key) = Sum.inl b) = (a == b) := by
  by_cases e : a = b
  . subst e; simp
  . have h : ¬ (Sum.inl a : Key) = Sum.inl b := fun q => e (Sum.inl.inj q)
    rw [decide_eq_false h]; exact (beq_eq_false_iff_ne.mpr e).symm
theorem key_rr (a b : Str) : decide ((Sum.inr a : Key) = Sum.inr b) = decide (a = b) := by
  by_cases e : a = b
  . subst e; simp
  . have h : ¬ (Sum.inr a : Key) = Sum.inr b := fun q => e (Sum.inr.inj q)
    rw [decide_eq_false h, decide_eq_false e]
theorem key_lr (a : Int) (b : Str) : decide ((Sum.inl a : Key) = Sum.inr b) = false := decide_eq_false (fun q => nomatch q)
theorem key_rl (a : Str) (b : Int) : decide ((Sum.inr a : Key) = Sum.inl b) = false := decide_eq_false (fun q => nomatch q)
def mixKind (prog : Program) (w : World) : PySem.KeyKind prog w Key where
  is := keyIs
  hash := keyH w
  inj := fun v a b ha hb => by
    rcases keyIs_shape ha with ⟨i, t, rfl, rfl⟩ | ⟨x, t, rfl, rfl⟩
    . rcases keyIs_shape hb with ⟨j, u, rfl, e⟩ | ⟨y, u, rfl, e⟩
      . injection e with e1 _; rw [e1]
      . exact nomatch e
    . rcases keyIs_shape hb with ⟨j, u, rfl, e⟩ | ⟨y, u, rfl, e⟩
      . exact nomatch e
      . injection e with e1 _; rw [e1]
  byValue := fun k v h => by
    rcases keyIs_shape h with ⟨i, t, rfl, rfl⟩ | ⟨x, t, rfl, rfl⟩ <;> rfl
  pyHash := fun hv h => by
    rcases keyIs_shape hv with ⟨i, t, rfl, rfl⟩ | ⟨x, t, rfl, rfl⟩
    . exact wpAny_pyHash_int h
    . exact wpAny_pyHash_str h
  eqBool := fun hu hv h => by
    rcases keyIs_shape hu with ⟨i, t, rfl, rfl⟩ | ⟨x, t, rfl, rfl⟩
    . rcases keyIs_shape hv with ⟨j, u, rfl, rfl⟩ | ⟨y, u, rfl, rfl⟩
      . rw [key_ll] at h; exact wpAny_eqBool_int h
      . rw [key_lr] at h; exact SeqAt.EqAt.int_str i t y u _ _ _ _ h
    . rcases keyIs_shape hv with ⟨j, u, rfl, rfl⟩ | ⟨y, u, rfl, rfl⟩
      . rw [key_rl] at h; exact SeqAt.EqAt.str_int x t j u _ _ _ _ h
      . rw [key_rr] at h; exact wpAny_eqBool_str h
  «strs» := fun k x t v h => by
    rcases keyIs_shape h with ⟨i, u, rfl, e⟩ | ⟨y, u, rfl, e⟩
    . exact nomatch e
    . injection e with e1 _
      subst e1
      cases v <;> rfl
theorem mixKind_int (prog : Program) (w : World) (i : Int) (t : Tok) : (mixKind prog w).is (.inl i) (.int i t) = true := keyIs_int i t
theorem mixKind_str (prog : Program) (w : World) (x : Str) (t : Tok) : (mixKind prog w).is (.inr x) (.str x t) = true := keyIs_str x t
end L2
namespace L2
open PySem PySem.Spec PyProof.Rows
inductive V where
  | non | bl (b : Bool) | int (i : Int) | str (x : Str) | byt (b : Array UInt8) | flt (b : UInt64) | ref (a : Addr) | ty (n : String)
  deriving DecidableEq
def RelV : V -> Value -> Prop
  | .non, u => u = Value.none
  | .bl b, u => u = Value.bool b
  | .int i, u => ∃ t, u = Value.int i t
  | .str x, u => ∃ t, u = Value.str x t
  | .byt b, u => ∃ t, u = Value.bytes b t
  | .flt b, u => ∃ t, u = Value.float b t
  | .ref a, u => u = Value.ref a
  | .ty n, u => u = Value.type n
abbrev Vals : List V -> List Value -> Prop := Paired RelV
theorem Vals.length {xs : List V} {us : List Value} (r : Vals xs us) : xs.length = us.length := Paired.length r
theorem Vals.get : ∀ {xs : List V} {us : List Value} {i : Nat} {x : V}, Vals xs us -> xs[i]? = some x -> ∃ u, us[i]? = some u /\ RelV x u
  | _, _, _, _, .nil, e => by simp at e
  | _, _, 0, _, .cons r _, e => by simp at e; subst e; exact ⟨_, rfl, r⟩
  | _, _, i + 1, x, .cons _ t, e => by
    obtain ⟨u, h1, h2⟩ := Vals.get (i := i) (x := x) t (by simpa using e)
    exact ⟨u, by simpa using h1, h2⟩
theorem Vals.set {x : V} {u : Value} (r : RelV x u) : ∀ {xs : List V} {us : List Value} (i : Nat), Vals xs us -> Vals (xs.set i x) (us.set i u)
  | _, _, _, .nil => .nil
  | _, _, 0, .cons _ t => .cons r t
  | _, _, i + 1, .cons q t => .cons q (Vals.set r i t)
theorem Vals.append : ∀ {xs ys : List V} {us ws : List Value}, Vals xs us -> Vals ys ws -> Vals (xs ++ ys) (us ++ ws)
  | _, _, _, _, .nil, s => s
  | _, _, _, _, .cons r t, s => .cons r (Vals.append t s)
theorem Vals.take : ∀ {xs : List V} {us : List Value} (n : Nat), Vals xs us -> Vals (xs.take n) (us.take n)
  | _, _, 0, _ => .nil
  | _, _, _ + 1, .nil => .nil
  | _, _, n + 1, .cons r t => .cons r (Vals.take n t)
theorem Vals.drop : ∀ {xs : List V} {us : List Value} (n : Nat), Vals xs us -> Vals (xs.drop n) (us.drop n)
  | _, _, 0, r => r
  | _, _, _ + 1, .nil => .nil
  | _, _, n + 1, .cons _ t => Vals.drop n t
def RelO : Option V -> Option Value -> Prop
  | some v, some u => RelV v u
  | none, none => True
  | _, _ => False
def KV {κ : Type} : List (κ × V) -> List (κ × Value) -> Prop := Paired fun (p : κ × V) (q : κ × Value) => p.1 = q.1 /\ RelV p.2 q.2
def kV : Key -> V
  | .inl i => .int i
  | .inr x => .str x
inductive HO where
  /-- a list -/
  | lst (xs : List V)
  /-- a tuple (never changes) -/
  | tup (xs : List V)
  /-- a dict whose keys are ints and texts; one whose keys are tuples of ints and texts (the empty one is both) -/
  | dK (kvs : List (Key × V)) | dT (kvs : List (List Key × V))
  /-- a set of ints: its members, its size -/
  | set (S : Int -> Bool) (n : Nat)
  /-- an instance of the class at C, its dict at dx, its attributes -/
  | ins (C dx : Addr) (fs : List (Str × V))
  /-- the dict of the instance at x -/
  | own (x : Addr)
  /-- the dict of an exception -/
  | xd (fs : List (Str × V))
  /-- a bound method, f of x -/
  | met (f x : Addr)
  /-- a range object lo, lo + 1, .. below hi -/
  | rng (lo hi : Int)
  /-- a thing that is known to the object (the script; a dict while a loop walks it): read, never written while it is so -/
  | frz (o : Obj) (u : HO)
  /-- a code object's table -/
  | tbl (ps : Array Value)
  /-- any other thing, by what is true of its one object (a def of one's own: SetO a S n := HO.ext fun h => ..) -/
  | ext (φ : Heap -> Prop)
abbrev Hp := Addr -> Option HO
def upd (H : Hp) (a : Addr) (o : HO) : Hp := fun b => if b = a then some o else H b
theorem upd_same {H : Hp} {a : Addr} {o : HO} : upd H a o a = some o := by unfold upd; rw [if_pos rfl]
theorem upd_ne {H : Hp} {a b : Addr} {o : HO} (h : b ≠ a) : upd H a o b = H b := by unfold upd; rw [if_neg h]
theorem upd_upd {H : Hp} {a : Addr} {o u : HO} : upd (upd H a o) a u = upd H a u := by
  funext b; unfold upd; split <;> rfl
theorem ne_of {H : Hp} {a b : Addr} {o u : HO} (h : H a = some o) (h' : H b = some u) (d : o ≠ u) : a ≠ b := by
  intro e; subst e; rw [h] at h'; exact d (Option.some.inj h')
theorem ne_of_none {H : Hp} {a b : Addr} {o : HO} (h : H a = some o) (h' : H b = none) : a ≠ b := by
  intro e; subst e; rw [h] at h'; cases h'
section
variable (P : Program) (w : World)
def ObjOk (H : Hp) (h : Heap) (a : Addr) : HO -> Prop
  | .lst xs => xs.length <= sizeLine /\ ∃ (its : List Value) (n : Nat), Vals xs its /\ h.get? a = some { cls := .type "list", data := .seq its.toArray n }
  | .tup xs => xs.length <= sizeLine /\ ∃ its : List Value, Vals xs its /\ IsTup h a its.toArray
  | .dK kvs => kvs.length <= sizeLine /\ (a == sysModules) = false /\ ∃ vs, KV kvs vs /\ h.DictOf (mixKind P w) a vs
  | .dT kvs => kvs.length <= sizeLine /\ (a == sysModules) = false /\ ∃ xs : List (List Key × Addr × Value),
      Paired (fun (p : List Key × V) (q : List Key × Addr × Value) => p.1 = q.1 /\ H q.2.1 = some (.tup (p.1.map kV)) /\ RelV p.2 q.2.2) kvs xs /\
      ∃ o es ep, h.get? a = some o /\ o.ExactDict /\ o.data = .dict es ep /\ es.toList = xs.map (entryOfKey (tupleKind (mixKind P w))) /\ (xs.map (·.1)).Nodup
  | .set S n => h.SetOf (intKind P w) a S n
  | .ins C dx fs => H dx = some (.own a) /\ fs.length <= 1000 /\ dx ≠ a /\ h.get? a = some (PySem.W.instObj C dx) /\
      ∃ mA, h.Ns1 dx mA /\ (∀ f, RelO (fs.lookup f) (mA f)) /\ PySem.Within mA (fs.map (·.1))
  | .own _ => ∃ o, h.get? a = some o
  | .xd fs => ∃ mA, h.Ns1 a mA /\ ∀ f, RelO (fs.lookup f) (mA f)
  | .rng lo hi => ∃ t u v, h.get? a = some { cls := .type "range", data := .fields #[.int lo t, .int hi u, .int 1 v] }
  | .frz o u => h.get? a = some o /\ ObjOk H h a u
  | .tbl ps => h.get? a = some { cls := .none, data := .fields ps }
  | .met f x => h.get? a = some (PySem.W.methodObj (.ref f) (.ref x))
  | .ext φ => φ h /\ (∃ o, h.get? a = some o) /\ ∀ h1 h2 : Heap, φ h1 -> (∀ o, h1.get? a = some o -> h2.get? a = some o) -> φ h2
def HOk (H : Hp) (h : Heap) : Prop := ∀ a o, H a = some o -> ObjOk P w H h a o
end
section
variable {P : Program} {w : World} {H H' : Hp} {h h' : Heap} {a : Addr} {o : HO}
theorem ObjOk.lt (x : ObjOk P w H h a o) : a < h.objs.size := by
  cases o with
  | lst xs => obtain ⟨_, _, _, _, e⟩ := x; exact Heap.lt_size e
  | tup xs => obtain ⟨_, _, _, p⟩ := x; exact p.lt
  | dK kvs => obtain ⟨_, _, _, _, o, _, _, e, _⟩ := x; exact Heap.lt_size e
  | dT kvs => obtain ⟨_, _, _, _, o, _, _, e, _⟩ := x; exact Heap.lt_size e
  | set S n => obtain ⟨o, _, _, _, e, _⟩ := x; exact Heap.lt_size e
  | ins C dx fs => obtain ⟨_, _, _, e, _⟩ := x; exact Heap.lt_size e
  | own y => obtain ⟨_, e⟩ := x; exact Heap.lt_size e
  | xd fs => obtain ⟨_, ⟨_, _, _, e, _⟩, _⟩ := x; exact Heap.lt_size e
  | rng lo hi => obtain ⟨_, _, _, e⟩ := x; exact Heap.lt_size e
  | frz ob u => obtain ⟨e, _⟩ := x; exact Heap.lt_size e
  | tbl ps => exact Heap.lt_size (show h.get? a = some _ from x)
  | met f y => exact Heap.lt_size (show h.get? a = some _ from x)
  | ext φ => obtain ⟨_, ⟨_, e⟩, _⟩ := x; exact Heap.lt_size e
theorem Paired.mapP {α β : Type} {F G : α -> β -> Prop} : ∀ {l₁ : List α} {l₂ : List β}, Paired F l₁ l₂ -> (∀ a b, F a b -> G a b) -> Paired G l₁ l₂
  | _, _, .nil, _ => .nil
  | _, _, .cons r t, f => .cons (f _ _ r) (Paired.mapP t f)
theorem ObjOk.stay (x : ObjOk P w H h a o) (k : ∀ b u, (b = a \/ H b = some (.own a)) -> h.get? b = some u -> h'.get? b = some u)
    (ho : ∀ b, H b = some (.own a) -> H' b = some (.own a)) (ht : ∀ b xs, H b = some (.tup xs) -> H' b = some (.tup xs)) : ObjOk P w H' h' a o := by
  induction o with
  | lst xs => obtain ⟨z, its, n, r, e⟩ := x; exact ⟨z, its, n, r, k _ _ (.inl rfl) e⟩
  | tup xs => obtain ⟨z, its, r, ob, e, c⟩ := x; exact ⟨z, its, r, ob, k _ _ (.inl rfl) e, c⟩
  | dK kvs => obtain ⟨z, y, vs, r, ob, es, ep, e, c⟩ := x; exact ⟨z, y, vs, r, ob, es, ep, k _ _ (.inl rfl) e, c⟩
  | dT kvs =>
    refine hld fun g_ k_ => ?_; obtain ⟨z, y, xs, r, ob, es, ep, e, c⟩ := x; refine k_ ?_; exact ⟨z, y, xs, Paired.mapP r fun p q z => ⟨z.1, ht _ _ z.2.1, z.2.2⟩, ob, es, ep, k _ _ (.inl rfl) e, c⟩
  | set S n => obtain ⟨ob, es, ep, t, e, c⟩ := x; exact ⟨ob, es, ep, t, k _ _ (.inl rfl) e, c⟩
  | ins C dx fs =>
    refine hld fun g_ k_ => ?_; obtain ⟨d, z, ne, e, mA, ⟨od, es, ep, e2, c⟩, r⟩ := x; refine k_ ?_; exact ⟨ho _ d, z, ne, k _ _ (.inl rfl) e, mA, ⟨od, es, ep, k _ _ (.inr d) e2, c⟩, r⟩
  | own y => obtain ⟨ob, e⟩ := x; exact ⟨ob, k _ _ (.inl rfl) e⟩
  | xd fs => obtain ⟨mA, ⟨od, es, ep, e, c⟩, r⟩ := x; exact ⟨mA, ⟨od, es, ep, k _ _ (.inl rfl) e, c⟩, r⟩
  | rng lo hi => obtain ⟨t, u, v, e⟩ := x; exact ⟨t, u, v, k _ _ (.inl rfl) e⟩
  | frz ob u ih => obtain ⟨e, q⟩ := x; exact ⟨k _ _ (.inl rfl) e, ih q⟩
  | tbl ps =>
    have e : h.get? a = some { cls := .none, data := .fields ps } := x
    show h'.get? a = some { cls := .none, data := .fields ps }
    exact k a _ (.inl rfl) e
  | met f y =>
    have e : h.get? a = some (PySem.W.methodObj (.ref f) (.ref y)) := x
    show h'.get? a = some (PySem.W.methodObj (.ref f) (.ref y))
    exact k a _ (.inl rfl) e
  | ext φ => obtain ⟨p, ⟨o, e⟩, st⟩ := x; exact ⟨st _ _ p fun o q => k _ _ (.inl rfl) q, ⟨o, k _ _ (.inl rfl) e⟩, st⟩
theorem HOk.lt (x : HOk P w H h) (e : H a = some o) : a < h.objs.size := (x a o e).lt
theorem HOk.fresh (x : HOk P w H h) (e : h.objs.size <= a) : H a = none := by
  cases q : H a with
  | none => rfl
  | some u => exact absurd (Nat.lt_of_lt_of_le (x.lt q) e) (Nat.lt_irrefl _)
theorem HOk.kept (x : HOk P w H h) (k : ∀ b u, h.get? b = some u -> h'.get? b = some u) : HOk P w H h' := fun a o e =>
  (x a o e).stay (fun b u _ q => k b u q) (fun _ q => q) fun _ _ q => q
theorem HOk.laid (x : HOk P w H h) (k : ∀ b u, h.get? b = some u -> h'.get? b = some u) (hp : h.objs.size <= a) (new : ObjOk P w (upd H a o) h' a o) : HOk P w (upd H a o) h' := fun b u e => by
  have hn := x.fresh hp
  by_cases hb : b = a
  . subst hb; rw [upd_same] at e; cases e; exact new
  . rw [upd_ne hb] at e
    exact (x b u e).stay (fun c v _ q => k c v q) (fun c q => by rw [upd_ne (ne_of_none q hn)]; exact q) fun c xs q => by rw [upd_ne (ne_of_none q hn)]; exact q
end
def Rd (H : Hp) (a : Addr) (u : HO) : Prop := H a = some u \/ ∃ o, H a = some (.frz o u)
theorem Rd.ok {P : Program} {w : World} {H : Hp} {h : Heap} {a : Addr} {u : HO} (r : Rd H a u) (x : HOk P w H h) : ObjOk P w H h a u := by
  rcases r with r | ⟨o, r⟩
  . exact x a u r
  . obtain ⟨_, q⟩ := x a _ r
    exact q
def Mut : Option HO -> Prop
  | some (.lst _) => True
  | some (.dK _) => True
  | some (.dT _) => True
  | some (.set _ _) => True
  | some (.ins _ _ _) => True
  | some (.ext _) => True
  | _ => False
section
variable {P : Program} {w : World} {H : Hp} {h h' : Heap} {x e : Addr} {o' : HO}
theorem HOk.write (ok : HOk P w H h) (mu : Mut (H x)) (he : e = x \/ H e = some (.own x)) (k : ∀ b u, b ≠ e -> h.get? b = some u -> h'.get? b = some u) (heo : ∃ u, h'.get? e = some u)
    (new : ObjOk P w (upd H x o') h' x o') : HOk P w (upd H x o') h' := fun b u q => by
  have nown : ∀ c y, H c = some (.own y) -> c ≠ x := fun c y r z => by subst z; rw [r] at mu; exact mu
  have ntup : ∀ c xs, H c = some (.tup xs) -> c ≠ x := fun c xs r z => by subst z; rw [r] at mu; exact mu
  by_cases hb : b = x
  . subst hb; rw [upd_same] at q; cases q; exact new
  . rw [upd_ne hb] at q
    by_cases hbe : b = e
    . have q' : H b = some (.own x) := by
        rcases he with z | z
        . exact absurd (hbe.trans z) hb
        . rw [hbe]; exact z
      rw [q] at q'; cases q'; obtain ⟨v, hv⟩ := heo; exact ⟨v, by rw [hbe]; exact hv⟩
    . refine (ok b u q).stay (fun c v hc r => k c v ?_ r) (fun c r => by rw [upd_ne (nown c b r)]; exact r) fun c xs r => by rw [upd_ne (ntup c xs r)]; exact r
      rcases hc with rfl | hc
      . exact hbe
      . rintro rfl
        rcases he with z | z
        . exact nown c b hc z
        . rw [hc] at z; cases z; exact hb rfl
end
structure Un (fs ex : List Addr) (H H' : Hp) (h h' : Heap) : Prop where
  keep : ∀ b o, h.get? b = some o -> H b = none -> b ∉ fs -> b ∉ ex -> h'.get? b = some o
  slot : ∀ b o, h.get? b = some o -> H b = none -> b ∈ fs -> b ∉ ex -> ∃ sl, h'.get? b = some { o with slots := sl }
  free : ∀ b o, h.get? b = some o -> H b = none -> b ∉ ex -> H' b = none
  there : ∀ b o, h.get? b = some o -> b ∉ ex -> ∃ o', h'.get? b = some o'
  tups : ∀ b xs, H b = some (.tup xs) -> H' b = some (.tup xs)
  frzs : ∀ b o u, H b = some (.frz o u) -> H' b = some (.frz o u)
  tbls : ∀ b ps, H b = some (.tbl ps) -> ∃ more, H' b = some (.tbl (ps ++ more))
section
variable {fs fs' ex ex' : List Addr} {H H1 H2 : Hp} {h h1 h2 h' : Heap} {a x e : Addr} {o : HO}
theorem Un.any (u : Un fs ex H H1 h h1) {b : Addr} {ob : Obj} (q : h.get? b = some ob) (n : H b = none) (hx : b ∉ ex) : ∃ sl, h1.get? b = some { ob with slots := sl } := by
  by_cases hb : b ∈ fs
  . exact u.slot b ob q n hb hx
  . exact ⟨ob.slots, u.keep b ob q n hb hx⟩
theorem Un.kept (k : ∀ b u, h.get? b = some u -> h'.get? b = some u) : Un fs ex H H h h' :=
  ⟨fun b ob q _ _ _ => k b ob q, fun b ob q _ _ _ => ⟨ob.slots, k b ob q⟩, fun _ _ _ n _ => n, fun b ob q _ => ⟨ob, k b ob q⟩, fun _ _ q => q, fun _ _ _ q => q, fun _ ps q => ⟨#[], by rw [q]; simp⟩⟩
theorem Un.refl : Un fs ex H H h h := Un.kept fun _ _ q => q
theorem Un.laid (k : ∀ b u, h.get? b = some u -> h'.get? b = some u) (hp : h.objs.size <= a) (hn : H a = none) : Un fs ex H (upd H a o) h h' where
  keep := fun b u q _ _ _ => k b u q
  slot := fun b u q _ _ _ => ⟨u.slots, k b u q⟩
  free := fun b u q n _ => by rw [upd_ne (Nat.ne_of_lt (Nat.lt_of_lt_of_le (Heap.lt_size q) hp))]; exact n
  there := fun b u q _ => ⟨u, k b u q⟩
  tups := fun b xs q => by rw [upd_ne (ne_of_none q hn)]; exact q
  frzs := fun b u xs q => by rw [upd_ne (ne_of_none q hn)]; exact q
  tbls := fun b ps q => ⟨#[], by rw [upd_ne (ne_of_none q hn), q]; simp⟩
theorem Un.write (mu : Mut (H x)) (he : e = x \/ H e = some (.own x)) (k : ∀ b u, b ≠ e -> h.get? b = some u -> h'.get? b = some u) (heo : ∃ u, h'.get? e = some u) : Un fs ex H (upd H x o) h h' := by
  have hx : ∀ b, H b = none -> b ≠ x := fun b n z => by subst z; rw [n] at mu; exact mu
  have hb : ∀ b, H b = none -> b ≠ e := fun b n z => by
    subst z
    rcases he with r | r
    . exact hx b n r
    . rw [n] at r; cases r
  have hm : ∀ b u, H b = some u -> ¬ Mut (some u) -> b ≠ x := fun b u q nm z => by subst z; rw [q] at mu; exact nm mu
  refine ⟨fun b u q n _ _ => k b u (hb b n) q, fun b u q n _ _ => ⟨u.slots, k b u (hb b n) q⟩, fun b u q n _ => by rw [upd_ne (hx b n)]; exact n, fun b u q _ => ?_,
    fun b xs q => by rw [upd_ne (hm b _ q fun z => z)]; exact q, fun b u xs q => by rw [upd_ne (hm b _ q fun z => z)]; exact q, fun b ps q => ⟨#[], by rw [upd_ne (hm b _ q fun z => z), q]; simp⟩⟩
  by_cases hbe : b = e
  . subst hbe; exact heo
  . exact ⟨u, k b u hbe q⟩
end
def trk (h : Heap) (H : Hp) : List Addr := (List.range h.objs.size).filter fun a => (H a).isSome
def hidT (h : Heap) (H : Hp) : Heap := PySem.W.hideAll h (trk h H)
theorem hidT_size (h : Heap) (H : Hp) : (hidT h H).objs.size = h.objs.size := PySem.W.hideAll_size _ _
theorem hidT_get {h : Heap} {H : Hp} {b : Addr} {o : Obj} (e : h.get? b = some o) (n : H b = none) : (hidT h H).get? b = some o :=
  PySem.W.hideAll_get _ e fun hm => by
    have q : (H b).isSome = true := (List.mem_filter.mp hm).2; rw [n] at q; simp at q
theorem of_hidT {h : Heap} {H : Hp} {b : Addr} {o : Obj} (e : (hidT h H).get? b = some o) : h.get? b = some o /\ H b = none := by
  have e' : h.get? b = some o := PySem.W.of_hideAll (trk h H) e; refine ⟨e', ?_⟩
  cases q : H b with
  | none => rfl
  | some x =>
    have hm : b ∈ trk h H := List.mem_filter.mpr ⟨List.mem_range.mpr (Heap.lt_size e'), by simp [q]⟩
    have z : (hidT h H).get? b = none := PySem.W.hideAll_none (trk h H) hm; rw [z] at e; cases e
def allNews (g h : Heap) (L : Addr) : List (Addr × Obj) := (List.range h.objs.size).filterMap fun a => if a = L \/ (g.get? a).isSome = true then none else (h.get? a).map fun o => (a, o)
def rest (g h : Heap) (L d : Addr) : List (Addr × Obj) := (allNews g h L).filter fun p => decide (p.1 ≠ d)
end L2
namespace L2
open PySem PySem.Spec PyProof.Rows
structure Mod (K : PySem.W.Frag) (mg : Str -> Option Value) (base : Heap) : Prop where
  kin : K.In base
  glob : base.Ns mainGlobals mg
  blt : ∃ mb, base.Ns builtinsNs mb /\ ∀ x : Str, x ≠ "__name__" -> mb x = bootBuiltins x
  nolimit : base.NoLimit
structure Cx where
  prog : Program
  w : World
  K : PySem.W.Frag
  mg : Str -> Option Value
  base : Heap
  A : Around
  N : List Str
  s₀ : Shared
  H₀ : Hp
  env : Env
  outer : List Env
  stack : List Env
  ex : List Addr
  fn : Str -> Bool
  calm : Bool
  pn : List (Addr × Obj)
  xe : Value -> Shared -> Prop
def frs (l : List Env) : List Addr := l.filterMap (·.frame)
abbrev Cx.fs (X : Cx) : List Addr := frs X.outer
def Vis (sc : Scope) (x : Str) : Prop := sc.names.lookup x = some .local \/ sc.names.lookup x = some .cell \/ sc.names.lookup x = some .free
def Loc (sc : Scope) (x : Str) : Prop := sc.names.lookup x = some .local \/ sc.names.lookup x = some .cell
def Look (env : Env) (h : Heap) (m : Str -> Option Value) (x : Str) (u : Value) : Prop :=
  (env.kindOf x = some .local /\ m x = some u) \/ ((env.kindOf x = some .cell \/ env.kindOf x = some .free) /\ ∃ c, env.cells.lookup x = some c /\ h.IsCell c (some u))
structure Cx.Ok (X : Cx) : Prop where
  mod : Mod X.K X.mg X.base
  kind : X.env.scope.kind = .function
  glob : X.env.globals = mainGlobals
  blt : X.env.builtins = builtinsNs
  above : X.s₀.heap.objs.size <= X.env.locals
  inj : ∀ x y c, X.env.cells.lookup x = some c -> X.env.cells.lookup y = some c -> x = y
  has : ∀ x, (X.env.kindOf x = some .cell \/ X.env.kindOf x = some .free) -> ∃ c, X.env.cells.lookup x = some c
  cab : ∀ x c, X.fn x = true -> X.env.cells.lookup x = some c -> X.s₀.heap.objs.size <= c
  hd : X.calm = true -> X.A.handled = none
  frames : X.A.frames = some X.stack
  stk : X.stack = X.outer \/ (X.stack = X.env :: X.outer /\ X.env.frame = some X.env.locals)
  exf : ∀ b ∈ X.ex, b ≠ X.env.locals /\ ∀ x c, X.env.cells.lookup x = some c -> c ≠ b
  bs : ∀ b o, X.base.get? b = some o -> X.s₀.heap.get? b = some o /\ X.H₀ b = none
  bsz : X.base.objs.size <= X.s₀.heap.objs.size
  noex : ∀ b o, X.base.get? b = some o -> b ∉ X.ex
  exfs : ∀ b ∈ X.ex, b ∉ X.fs
  funs : X.s₀.heap.FunFrames X.base X.outer
  frf : ∀ b ∈ X.fs, X.H₀ b = none
structure Inv (X : Cx) (pins : List (Addr × Obj)) (σ : List (Option V)) (H : Hp) (s : Shared) : Prop where
  ok : X.Ok
  os : s.os = X.s₀.os
  bare : AllBare s.gens
  base : Un X.fs X.ex X.H₀ H X.s₀.heap s.heap
  loc : ∃ m, s.heap.Ns X.env.locals m /\ ∀ (i : Nat) (x : Str) (v : V), X.N[i]? = some x -> σ[i]? = some (some v) -> Vis X.env.scope x -> ∃ u, RelV v u /\ Look X.env s.heap m x u
  cell : ∀ x c, X.env.cells.lookup x = some c -> ∃ v, s.heap.IsCell c v
  free : H X.env.locals = none
  freeC : ∀ x c, X.env.cells.lookup x = some c -> H c = none
  pin : ∀ p ∈ X.pn ++ pins, s.heap.get? p.1 = some p.2 /\ H p.1 = none /\ p.1 ≠ X.env.locals /\ p.1 ∉ X.fs /\ ∀ v, p.2.data ≠ .cell v
  hok : HOk X.prog X.w H s.heap
  len : σ.length = X.N.length
section
variable {X : Cx} {pins : List (Addr × Obj)} {σ : List (Option V)} {H H' : Hp} {s : Shared} {h' : Heap}
theorem Cx.Ok.nofr (ok : X.Ok) {b : Addr} {o : Obj} (e : X.base.get? b = some o) : b ∉ X.fs := fun hb => by
  have := (ok.funs.mem hb).1; rw [e] at this; cases this
theorem Inv.bs (I : Inv X pins σ H s) : ∀ b o, X.base.get? b = some o -> s.heap.get? b = some o /\ H b = none := fun b o e =>
  ⟨I.base.keep b o (I.ok.bs b o e).1 (I.ok.bs b o e).2 (I.ok.nofr e) (I.ok.noex b o e), I.base.free b o (I.ok.bs b o e).1 (I.ok.bs b o e).2 (I.ok.noex b o e)⟩
theorem Inv.bk (I : Inv X pins σ H s) : ∀ b o, X.base.get? b = some o -> s.heap.get? b = some o := fun b o e => (I.bs b o e).1
theorem Inv.mod (I : Inv X pins σ H s) : Mod X.K X.mg X.base := I.ok.mod
theorem Inv.kIn (I : Inv X pins σ H s) : X.K.In s.heap := I.ok.mod.kin.keeps I.bk
theorem Inv.lt (I : Inv X pins σ H s) : X.env.locals < s.heap.objs.size := let ⟨_, hn, _⟩ := I.loc; hn.lt
theorem Inv.sz (I : Inv X pins σ H s) : X.s₀.heap.objs.size <= s.heap.objs.size := Nat.le_trans I.ok.above (Nat.le_of_lt I.lt)
theorem Inv.nofs (I : Inv X pins σ H s) {a : Addr} (h : s.heap.objs.size <= a) : a ∉ X.fs := fun hb => by
  refine hld fun g_ k_ => ?_; obtain ⟨_, o, ho, _⟩ := I.ok.funs.mem hb; refine k_ ?_; exact absurd (Nat.lt_of_lt_of_le (Heap.lt_size ho) (Nat.le_trans I.sz h)) (Nat.lt_irrefl _)
theorem Inv.cne (I : Inv X pins σ H s) : ∀ x c, X.env.cells.lookup x = some c -> c ≠ X.env.locals := fun x c e z => by
  refine hld fun g_ k_ => ?_; obtain ⟨v, o, ho, hd⟩ := I.cell x c e; refine k_ ?_; refine hld fun g_ k_ => ?_; obtain ⟨m, ⟨o', es, ep, ho', hd', _⟩, _⟩ := I.loc; refine k_ ?_; rw [z, ho'] at ho; cases ho; rw [hd'] at hd; cases hd
theorem Inv.funs (I : Inv X pins σ H s) : s.heap.FunFrames X.base X.outer := by
  have all : ∀ (l : List Env), (∀ b ∈ frs l, b ∈ X.fs) -> X.s₀.heap.FunFrames X.base l -> s.heap.FunFrames X.base l := by
    intro l
    induction l with
    | nil => intro _ _; trivial
    | cons env r ih =>
      intro hs hl; refine hld fun g_ k_ => ?_; obtain ⟨hk, ⟨L, o, hf, hn, ho, hd⟩, hr⟩ := hl; refine k_ ?_; have hL : L ∈ X.fs := hs L (by unfold frs; rw [List.filterMap_cons, hf]; exact List.mem_cons_self)
      obtain ⟨sl, e⟩ := I.base.slot L o ho (I.ok.frf L hL) hL fun z => I.ok.exfs L z hL; exact ⟨hk, ⟨L, _, hf, hn, e, hd⟩, ih (fun b hb => hs b (by unfold frs; rw [List.filterMap_cons, hf]; exact List.mem_cons_of_mem _ hb)) hr⟩
  exact all X.outer (fun _ hb => hb) I.ok.funs
theorem Inv.stack (I : Inv X pins σ H s) : s.heap.FunFrames X.base X.stack := by
  rcases I.ok.stk with e | ⟨e, hf⟩
  . rw [e]; exact I.funs
  . rw [e]
    obtain ⟨m, hn, _⟩ := I.loc; refine .cons (by rw [I.ok.kind]; decide) hf hn ?_ I.funs
    exact Heap.get?_none_of_le (Nat.le_trans I.ok.bsz I.ok.above)
theorem Inv.stkSub (I : Inv X pins σ H s) : ∀ b ∈ frs X.stack, b ∈ X.env.locals :: X.fs := fun b hb => by
  rcases I.ok.stk with e | ⟨e, hf⟩
  . rw [e] at hb; exact List.mem_cons_of_mem _ hb
  . rw [e] at hb
    unfold frs at hb
    rw [List.filterMap_cons, hf] at hb; exact hb
theorem Inv.stkFree (I : Inv X pins σ H s) : ∀ b ∈ frs X.stack, H b = none := fun b hb => by
  rcases List.mem_cons.mp (I.stkSub b hb) with e | hb
  . rw [e]; exact I.free
  . obtain ⟨_, o, ho, _⟩ := I.ok.funs.mem hb
    exact I.base.free b o ho (I.ok.frf b hb) fun z => I.ok.exfs b z hb
theorem Inv.step {g' : Array GenState} {t' : Nat} {d' : Drawn} {ch : List Addr} (I : Inv X pins σ H s)
    (hch : ∀ b ∈ ch, (b ∈ X.ex \/ X.s₀.heap.objs.size <= b) /\ b ≠ X.env.locals /\ (∀ x c, X.env.cells.lookup x = some c -> c ≠ b) /\ ∀ p ∈ X.pn ++ pins, p.1 ≠ b)
    (keep : ∀ b o, b ≠ X.env.locals -> b ∉ X.fs -> b ∉ ch -> s.heap.get? b = some o -> H b = none -> h'.get? b = some o)
    (slot : ∀ b o, b ≠ X.env.locals -> b ∈ X.fs -> b ∉ ch -> s.heap.get? b = some o -> H b = none -> ∃ sl, h'.get? b = some { o with slots := sl }) (free : ∀ b o, b ∉ ch -> s.heap.get? b = some o -> H b = none -> H' b = none)
    (there : ∀ b o, b ∉ ch -> s.heap.get? b = some o -> ∃ o', h'.get? b = some o')
    (tups : ∀ b xs, H b = some (.tup xs) -> H' b = some (.tup xs)) (frzs : ∀ b o u, H b = some (.frz o u) -> H' b = some (.frz o u)) (tbls : ∀ b ps, H b = some (.tbl ps) -> ∃ more, H' b = some (.tbl (ps ++ more)))
    (ns : ∀ m, s.heap.Ns X.env.locals m -> h'.Ns X.env.locals m) (hok : HOk X.prog X.w H' h') (hg : AllBare g') :
    Inv X pins σ H' { s with heap := h', gens := g', drawn := d', toks := t' } := by
  have neL : ∀ b o, X.s₀.heap.get? b = some o -> b ≠ X.env.locals := fun b o e => Nat.ne_of_lt (Nat.lt_of_lt_of_le (Heap.lt_size e) I.ok.above)
  have neC : ∀ b o, X.s₀.heap.get? b = some o -> b ∉ X.ex -> b ∉ ch := fun b o e hx hb => by
    rcases (hch b hb).1 with z | z
    . exact hx z
    . exact absurd (Nat.lt_of_lt_of_le (Heap.lt_size e) z) (Nat.lt_irrefl _)
  have cellK : ∀ x c, X.env.cells.lookup x = some c -> ∀ v, s.heap.IsCell c v -> h'.IsCell c v := fun x c e v ⟨o, ho, hd⟩ => by
    have nch : c ∉ ch := fun z => (hch c z).2.2.1 x c e rfl
    by_cases hc : c ∈ X.fs
    . obtain ⟨sl, q⟩ := slot c o (I.cne x c e) hc nch ho (I.freeC x c e)
      exact ⟨_, q, hd⟩
    . exact ⟨o, keep c o (I.cne x c e) hc nch ho (I.freeC x c e), hd⟩
  refine ⟨I.ok, I.os, hg, ⟨fun b o e n hb hx => ?_, fun b o e n hb hx => ?_, fun b o e n hx => ?_, fun b o e hx => ?_, fun b xs e => tups b xs (I.base.tups b xs e), fun b o xs e => frzs b o xs (I.base.frzs b o xs e), fun b ps e => ?_⟩, ?_, fun x c e => ?_, ?_, fun x c e => ?_, fun p hp => ?_, hok, I.len⟩
  . exact keep b o (neL b o e) hb (neC b o e hx) (I.base.keep b o e n hb hx) (I.base.free b o e n hx)
  . obtain ⟨sl, e1⟩ := I.base.slot b o e n hb hx
    obtain ⟨sl', e2⟩ := slot b _ (neL b o e) hb (neC b o e hx) e1 (I.base.free b o e n hx); exact ⟨sl', e2⟩
  . obtain ⟨o', e1⟩ := I.base.there b o e hx
    exact free b o' (neC b o e hx) e1 (I.base.free b o e n hx)
  . obtain ⟨o', e1⟩ := I.base.there b o e hx
    exact there b o' (neC b o e hx) e1
  . obtain ⟨m1, e1⟩ := I.base.tbls b ps e
    obtain ⟨m2, e2⟩ := tbls b _ e1; exact ⟨m1 ++ m2, by rw [e2, Array.append_assoc]⟩
  . obtain ⟨m, hn, hl⟩ := I.loc
    refine ⟨m, ns m hn, fun i x v e1 e2 e3 => ?_⟩; obtain ⟨u, r, l⟩ := hl i x v e1 e2 e3; refine ⟨u, r, ?_⟩
    rcases l with l | ⟨k, c, e, z⟩
    . exact .inl l
    . exact .inr ⟨k, c, e, cellK x c e _ z⟩
  . obtain ⟨v, z⟩ := I.cell x c e
    exact ⟨v, cellK x c e v z⟩
  . obtain ⟨m, ⟨o, _, _, ho, _⟩, _⟩ := I.loc
    exact free _ o (fun z => (hch _ z).2.1 rfl) ho I.free
  . obtain ⟨v, o, ho, hd⟩ := I.cell x c e
    exact free c o (fun z => (hch c z).2.2.1 x c e rfl) ho (I.freeC x c e)
  . obtain ⟨e, n, ne, nf, d⟩ := I.pin p hp
    have nch : p.1 ∉ ch := fun z => (hch p.1 z).2.2.2 p hp rfl; exact ⟨keep p.1 p.2 ne nf nch e n, free p.1 p.2 nch e n, ne, nf, d⟩
theorem Inv.un {t' : Nat} (I : Inv X pins σ H s) (u : Un X.fs [] H H' s.heap h') (hok : HOk X.prog X.w H' h') : Inv X pins σ H' { s with heap := h', toks := t' } := by
  refine hld fun g_ k_ => ?_; obtain ⟨m, ⟨o, es, ep, ho, r⟩, _⟩ := id I.loc; refine k_ ?_; obtain ⟨sl, hL⟩ := u.any ho I.free (by simp)
  exact I.step (g' := s.gens) (d' := s.drawn) (ch := []) (fun _ z => nomatch z) (fun b o _ hb _ e n => u.keep b o e n hb (by simp)) (fun b o _ hb _ e n => u.slot b o e n hb (by simp)) (fun b o _ e n => u.free b o e n (by simp)) (fun b o _ e => u.there b o e (by simp)) u.tups u.frzs u.tbls (fun m' hm => by
    refine hld fun g_ k_ => ?_; obtain ⟨o', es', ep', ho', r'⟩ := hm; refine k_ ?_; rw [ho] at ho'; cases ho'; exact ⟨_, es', ep', hL, r'⟩) hok I.bare
theorem Inv.call {g' : Array GenState} {t' : Nat} {d' : Drawn} {ch : List Addr} (I : Inv X pins σ H s) (u : Un (frs X.stack) ch H H' s.heap h') (hok : HOk X.prog X.w H' h') (hg : AllBare g')
    (hch : ∀ b ∈ ch, (b ∈ X.ex \/ X.s₀.heap.objs.size <= b) /\ b ≠ X.env.locals /\ (∀ x c, X.env.cells.lookup x = some c -> c ≠ b) /\ ∀ p ∈ X.pn ++ pins, p.1 ≠ b) :
    Inv X pins σ H' { s with heap := h', gens := g', drawn := d', toks := t' } := by
  refine hld fun g_ k_ => ?_; obtain ⟨m, ⟨o, es, ep, ho, r⟩, _⟩ := id I.loc; refine k_ ?_; obtain ⟨sl, hL⟩ := u.any ho I.free fun z => (hch _ z).2.1 rfl
  exact I.step (ch := ch) hch (fun b o hL hb hc e n => u.keep b o e n (fun z => (List.mem_cons.mp (I.stkSub b z)).elim hL hb) hc) (fun b o _ _ hc e n => u.any e n hc) (fun b o hc e n => u.free b o e n hc) (fun b o hc e => u.there b o e hc) u.tups u.frzs u.tbls (fun m' hm => by
    refine hld fun g_ k_ => ?_; obtain ⟨o', es', ep', ho', r'⟩ := hm; refine k_ ?_; rw [ho] at ho'; cases ho'; exact ⟨_, es', ep', hL, r'⟩) hok hg
theorem Inv.turned {t' : Nat} {it : Addr} (I : Inv X pins σ H s) (k : ∀ b o, b ≠ it -> s.heap.get? b = some o -> h'.get? b = some o) (hn : H it = none) (hL : it ≠ X.env.locals)
    (h1 : it ∈ X.ex \/ X.s₀.heap.objs.size <= it) (h2 : ∀ x c, X.env.cells.lookup x = some c -> c ≠ it) (h3 : ∀ p ∈ X.pn ++ pins, p.1 ≠ it) : Inv X pins σ H { s with heap := h', toks := t' } := by
  have nit : ∀ b u, H b = some u -> b ≠ it := fun b u e z => by rw [z, hn] at e; cases e
  refine I.step (g' := s.gens) (d' := s.drawn) (ch := [it]) (fun b hb => ?_) (fun b o _ _ hc e _ => k b o (fun z => hc (by simp [z])) e) (fun b o _ _ hc e _ => ⟨o.slots, k b o (fun z => hc (by simp [z])) e⟩) (fun _ _ _ _ n => n)
    (fun b o hc e => ⟨o, k b o (fun z => hc (by simp [z])) e⟩) (fun _ _ e => e) (fun _ _ _ e => e) (fun b ps e => ⟨#[], by rw [e]; simp⟩) (fun m hm => ?_) (fun b u e => ?_) I.bare
  . have e : b = it := by simpa using hb
    subst e; exact ⟨h1, hL, h2, h3⟩
  . obtain ⟨o, es, ep, ho, r⟩ := hm
    exact ⟨o, es, ep, k _ o (Ne.symm hL) ho, r⟩
  . refine (I.hok b u e).stay (fun c v hc q => k c v ?_ q) (fun _ q => q) fun _ _ q => q
    rcases hc with z | z
    . rw [z]; exact nit b u e
    . exact nit c _ z
theorem Inv.tok (I : Inv X pins σ H s) (t : Nat) : Inv X pins σ H { s with toks := t } := I.un (h' := s.heap) (t' := t) Un.refl I.hok
theorem Inv.kept {t' : Nat} (I : Inv X pins σ H s) (k : ∀ b u, s.heap.get? b = some u -> h'.get? b = some u) : Inv X pins σ H { s with heap := h', toks := t' } := I.un (Un.kept k) (I.hok.kept k)
theorem Inv.laid {a : Addr} {o : HO} {t' : Nat} (I : Inv X pins σ H s) (k : ∀ b u, s.heap.get? b = some u -> h'.get? b = some u) (hp : s.heap.objs.size <= a) (new : ObjOk X.prog X.w (upd H a o) h' a o) :
    Inv X pins σ (upd H a o) { s with heap := h', toks := t' } := I.un (Un.laid k hp (I.hok.fresh hp)) (I.hok.laid k hp new)
theorem Inv.write {x e : Addr} {o : HO} {t' : Nat} (I : Inv X pins σ H s) (mu : Mut (H x)) (he : e = x \/ H e = some (.own x)) (k : ∀ b u, b ≠ e -> s.heap.get? b = some u -> h'.get? b = some u) (heo : ∃ u, h'.get? e = some u)
    (new : ObjOk X.prog X.w (upd H x o) h' x o) : Inv X pins σ (upd H x o) { s with heap := h', toks := t' } := I.un (Un.write mu he k heo) (I.hok.write mu he k heo new)
theorem Inv.pins_of {pins' : List (Addr × Obj)} (I : Inv X pins σ H s) (h : ∀ p ∈ pins', s.heap.get? p.1 = some p.2 /\ H p.1 = none /\ p.1 ≠ X.env.locals /\ p.1 ∉ X.fs /\ ∀ v, p.2.data ≠ .cell v) : Inv X pins' σ H s :=
  ⟨I.ok, I.os, I.bare, I.base, I.loc, I.cell, I.free, I.freeC, fun p hp => (List.mem_append.mp hp).elim (fun z => I.pin p (List.mem_append_left _ z)) (h p), I.hok, I.len⟩
theorem nodup_ix {N : List Str} (hN : N.Nodup) {i j : Nat} {x : Str} (a : N[i]? = some x) (b : N[j]? = some x) : i = j := by
  obtain ⟨h1, e1⟩ := List.getElem?_eq_some_iff.mp a; obtain ⟨h2, e2⟩ := List.getElem?_eq_some_iff.mp b; exact (List.getElem_inj hN).mp (e1.trans e2.symm)
theorem store_ok2 {M : Model} {A : Around} {E : Value -> Shared -> Prop} {i : Nat} {x : Str} {v : V} {u : Value} {Q : Unit -> Shared -> Prop} (I : Inv X pins σ H s) (hN : X.N.Nodup) (hi : X.N[i]? = some x) (hx : Loc X.env.scope x) (r : RelV v u)
    (h : ∀ s', Inv X pins (σ.set i (some v)) H s' -> (∃ a, Heap.SameBut a s.heap s'.heap /\ (a = X.env.locals \/ X.env.cells.lookup x = some a)) -> Q () s') (hf : X.fn x = true \/ X.env.scope.names.lookup x = some .local := by first | exact .inl rfl | exact .inr rfl | assumption) : wpAny M A (storeName X.env x u) Q E s := by
  obtain ⟨m, hn, hl⟩ := id I.loc; have hcls : (X.env.scope.kind == .class || (X.env.scope.kind == .module && X.env.locals != X.env.globals)) = false := by rw [I.ok.kind]; rfl
  have hiσ : i < σ.length := by rw [I.len]; exact (List.getElem?_eq_some_iff.mp hi).1
  have cne := I.cne
  have tracked : ∀ {a : Addr} {h' : Heap}, (∃ o, s.heap.get? a = some o /\ H a = none) -> Heap.SameBut a s.heap h' -> HOk X.prog X.w H h' := fun {a h'} ha hs b ob e => by
    obtain ⟨_, _, hfree⟩ := ha; refine (I.hok b ob e).stay (fun c w' hc q => (hs.2 c ?_).trans q) (fun _ q => q) fun _ _ q => q
    rintro rfl
    rcases hc with rfl | hc
    . rw [hfree] at e; cases e
    . rw [hfree] at hc; cases hc
  rcases hx with hk | hk
  . refine wpAny_storeName_local hk hn (fun h' hn' hs => ?_) hcls
    refine hld fun g_ k_ => ?_; obtain ⟨oL, _, _, hoL, _⟩ := id hn; refine k_ ?_; refine h _ ⟨I.ok, I.os, I.bare, ⟨fun b o e n hb hx => ?_, fun b o e n hb hx => ?_, I.base.free, fun b o e hx => ?_, I.base.tups, I.base.frzs, I.base.tbls⟩, ⟨_, hn', fun j y v' e1 e2 e3 => ?_⟩, fun y c e => ?_, I.free, I.freeC, fun p hp => ?_, tracked ⟨oL, hoL, I.free⟩ hs, by simpa using I.len⟩ ⟨_, hs, .inl rfl⟩
    . exact (hs.2 b (Nat.ne_of_lt (Nat.lt_of_lt_of_le (Heap.lt_size e) I.ok.above))).trans (I.base.keep b o e n hb hx)
    . obtain ⟨sl, e1⟩ := I.base.slot b o e n hb hx
      exact ⟨sl, (hs.2 b (Nat.ne_of_lt (Nat.lt_of_lt_of_le (Heap.lt_size e) I.ok.above))).trans e1⟩
    . obtain ⟨o', e1⟩ := I.base.there b o e hx
      exact ⟨o', (hs.2 b (Nat.ne_of_lt (Nat.lt_of_lt_of_le (Heap.lt_size e) I.ok.above))).trans e1⟩
    . by_cases hj : j = i
      . subst hj
        rw [hi] at e1; cases e1; rw [List.getElem?_set_self hiσ] at e2
        cases e2
        exact ⟨u, r, .inl ⟨hk, by simp⟩⟩
      . rw [List.getElem?_set_ne (Ne.symm hj)] at e2
        obtain ⟨u', r', q⟩ := hl j y v' e1 e2 e3; refine ⟨u', r', ?_⟩
        rcases q with ⟨k, e⟩ | ⟨k, c, e, z⟩
        . refine .inl ⟨k, ?_⟩
          have : y ≠ x := fun e => hj (nodup_ix hN e1 (e ▸ hi))
          simp [this, e]
        . exact .inr ⟨k, c, e, z.sameBut hs (cne y c e)⟩
    . obtain ⟨w', z⟩ := I.cell y c e
      exact ⟨w', z.sameBut hs (cne y c e)⟩
    . obtain ⟨e, n, ne, nf, d⟩ := I.pin p hp
      exact ⟨(hs.2 p.1 ne).trans e, n, ne, nf, d⟩
  . have hfn : X.fn x = true := by
      rcases hf with z | z
      . exact z
      . rw [z] at hk; cases hk
    obtain ⟨c, hc⟩ := I.ok.has x (.inl hk); obtain ⟨w', z⟩ := I.cell x c hc; refine wpAny_storeName_cell I.ok.kind hk hc z (fun h' hc' hs => ?_); obtain ⟨oc, hoc, hocd⟩ := id z; refine h { s with heap := h' } ⟨I.ok, I.os, I.bare, ⟨fun b o e n hb hx => ?_, fun b o e n hb hx => ?_, I.base.free, fun b o e hx => ?_, I.base.tups, I.base.frzs, I.base.tbls⟩, ⟨m, hn.sameBut hs (Ne.symm (cne x c hc)), fun j y v' e1 e2 e3 => ?_⟩, fun y c' e => ?_, I.free, I.freeC, fun p hp => ?_, tracked ⟨oc, hoc, I.freeC x c hc⟩ hs, by simpa using I.len⟩ ⟨c, hs, .inr hc⟩
    . exact (hs.2 b (Nat.ne_of_lt (Nat.lt_of_lt_of_le (Heap.lt_size e) (I.ok.cab x c hfn hc)))).trans (I.base.keep b o e n hb hx)
    . obtain ⟨sl, e1⟩ := I.base.slot b o e n hb hx
      exact ⟨sl, (hs.2 b (Nat.ne_of_lt (Nat.lt_of_lt_of_le (Heap.lt_size e) (I.ok.cab x c hfn hc)))).trans e1⟩
    . obtain ⟨o', e1⟩ := I.base.there b o e hx
      exact ⟨o', (hs.2 b (Nat.ne_of_lt (Nat.lt_of_lt_of_le (Heap.lt_size e) (I.ok.cab x c hfn hc)))).trans e1⟩
    . by_cases hj : j = i
      . subst hj
        rw [hi] at e1; cases e1; rw [List.getElem?_set_self hiσ] at e2
        cases e2
        exact ⟨u, r, .inr ⟨.inl hk, c, hc, hc'⟩⟩
      . rw [List.getElem?_set_ne (Ne.symm hj)] at e2
        obtain ⟨u', r', q⟩ := hl j y v' e1 e2 e3; refine ⟨u', r', ?_⟩
        rcases q with q | ⟨k, c', e, z'⟩
        . exact .inl q
        . refine .inr ⟨k, c', e, z'.sameBut hs ?_⟩
          rintro rfl
          exact hj (nodup_ix hN e1 (I.ok.inj _ _ _ e hc ▸ hi))
    . by_cases hcc : c' = c
      . subst hcc; exact ⟨_, hc'⟩
      . obtain ⟨w2, z2⟩ := I.cell y c' e
        exact ⟨w2, z2.sameBut hs hcc⟩
    . obtain ⟨e, n, ne, nf, d⟩ := I.pin p hp
      refine ⟨(hs.2 p.1 ?_).trans e, n, ne, nf, d⟩; intro q; rw [q, hoc] at e; have q' : oc = p.2 := Option.some.inj e; exact d w' (by rw [<- q']; exact hocd)
theorem store_ok {M : Model} {A : Around} {E : Value -> Shared -> Prop} {i : Nat} {x : Str} {v : V} {u : Value} {Q : Unit -> Shared -> Prop} (I : Inv X pins σ H s) (hN : X.N.Nodup) (hi : X.N[i]? = some x) (hx : Loc X.env.scope x) (r : RelV v u)
    (h : ∀ s', Inv X pins (σ.set i (some v)) H s' -> Q () s') (hf : X.fn x = true \/ X.env.scope.names.lookup x = some .local := by first | exact .inl rfl | exact .inr rfl | assumption) : wpAny M A (storeName X.env x u) Q E s :=
  store_ok2 I hN hi hx r (fun s' I' _ => h s' I') hf
theorem Inv.call' {s' : Shared} {ch : List Addr} (I : Inv X pins σ H s) (ho : s'.os = s.os) (u : Un (frs X.stack) ch H H' s.heap s'.heap) (hok : HOk X.prog X.w H' s'.heap) (hg : AllBare s'.gens)
    (hch : ∀ b ∈ ch, (b ∈ X.ex \/ X.s₀.heap.objs.size <= b) /\ b ≠ X.env.locals /\ (∀ x c, X.env.cells.lookup x = some c -> c ≠ b) /\ ∀ p ∈ X.pn ++ pins, p.1 ≠ b) : Inv X pins σ H' s' := by
  refine hld fun g_ k_ => ?_; obtain ⟨h', g', d', t', o'⟩ := s'; refine k_ ?_; have e : o' = s.os := ho; subst e; exact I.call (g' := g') (t' := t') (d' := d') u hok hg hch
end
abbrev XK := Value -> Option Addr -> Hp -> Prop
abbrev St := List (Option V)
abbrev VK := V -> Hp -> Prop
abbrev TE := St -> Hp -> VK -> Prop
abbrev TT := St -> Hp -> (Bool -> Hp -> Prop) -> Prop
abbrev TA := St -> Hp -> (List V -> Hp -> Prop) -> Prop
structure Ends where
  nx : St -> Hp -> Prop
  rt : VK
  bk : St -> Hp -> Prop := fun _ _ => False
  ct : St -> Hp -> Prop := fun _ _ => False
abbrev TS := Ends -> St -> Hp -> Prop
inductive EP (X : Cx) (pins : List (Addr × Obj)) (σ : St) (Q : VK) (u : Value) (s' : Shared) : Prop
  | mk (v : _) (H' : _) (z1_ : Inv X pins σ H' s') (z2_ : RelV v u) (z3_ : Q v H') : EP X pins σ Q u s'
def TP (X : Cx) (pins : List (Addr × Obj)) (σ : St) (Q : Bool -> Hp -> Prop) (b : Bool) (s' : Shared) : Prop := ∃ H', Inv X pins σ H' s' /\ Q b H'
inductive AP (X : Cx) (pins : List (Addr × Obj)) (σ : St) (Q : List V -> Hp -> Prop) (us : List Value) (s' : Shared) : Prop
  | mk (vs : _) (H' : _) (z1_ : Inv X pins σ H' s') (z2_ : Vals vs us) (z3_ : Q vs H') : AP X pins σ Q us s'
inductive SN (X : Cx) (pins : List (Addr × Obj)) (N : St -> Hp -> Prop) (s' : Shared) : Prop
  | mk (σ' : St) (H' : Hp) (z1_ : Inv X pins σ' H' s') (z2_ : N σ' H') : SN X pins N s'
inductive SR (X : Cx) (pins : List (Addr × Obj)) (R : VK) (u : Value) (s' : Shared) : Prop
  | mk (v : V) (σ' : St) (H' : Hp) (z1_ : Inv X pins σ' H' s') (z2_ : RelV v u) (z3_ : R v H') : SR X pins R u s'
def SP (X : Cx) (pins : List (Addr × Obj)) (D : Ends) (f : Flow) (s' : Shared) : Prop :=
  match f with
  | .next => SN X pins D.nx s'
  | .brk => SN X pins D.bk s'
  | .cont => SN X pins D.ct s'
  | .ret u => SR X pins D.rt u s'
def PE (X : Cx) (e : Expr) (t : TE) : Prop :=
  ∀ (pins : List (Addr × Obj)) (s : Shared) (σ : St) (H : Hp) (Q : VK), Inv X pins σ H s -> t σ H Q -> wpAny (model X.prog X.w) X.A (eval e X.env) (EP X pins σ Q) X.xe s
def PT (X : Cx) (e : Expr) (t : TT) : Prop :=
  ∀ (pins : List (Addr × Obj)) (s : Shared) (σ : St) (H : Hp) (Q : Bool -> Hp -> Prop), Inv X pins σ H s -> t σ H Q -> wpAny (model X.prog X.w) X.A (isTrue e X.env (eval e X.env)) (TP X pins σ Q) X.xe s
def PW (X : Cx) (e : Expr) (t : TT) : Prop :=
  ∀ (whole : Sem Value) (pins : List (Addr × Obj)) (s : Shared) (σ : St) (H : Hp) (Q : Bool -> Hp -> Prop), Inv X pins σ H s -> t σ H Q -> wpAny (model X.prog X.w) X.A (isTrue e X.env whole) (TP X pins σ Q) X.xe s
theorem PW.pt {X : Cx} {e : Expr} {t : TT} (h : PW X e t) : PT X e t := h _
def PA (X : Cx) (es : List Expr) (t : TA) : Prop :=
  ∀ (pos : Pos) (pins : List (Addr × Obj)) (s : Shared) (σ : St) (H : Hp) (Q : List V -> Hp -> Prop), Inv X pins σ H s -> t σ H Q -> wpAny (model X.prog X.w) X.A (spliced (backTo pos (starEach es X.env))) (AP X pins σ Q) X.xe s
def PS (X : Cx) (st : Stmt) (t : TS) : Prop :=
  ∀ (pins : List (Addr × Obj)) (s : Shared) (σ : St) (H : Hp) (D : Ends), Inv X pins σ H s -> t D σ H -> wpAny (model X.prog X.w) X.A (exec st X.env) (SP X pins D) X.xe s
def PSs (X : Cx) (st : List Stmt) (t : TS) : Prop :=
  ∀ (pins : List (Addr × Obj)) (s : Shared) (σ : St) (H : Hp) (D : Ends), Inv X pins σ H s -> t D σ H -> wpAny (model X.prog X.w) X.A (execs st X.env) (SP X pins D) X.xe s
theorem thn {α : Type} {t : Sem α} {Q Q' : α -> Shared -> Prop} {M : Model} {A : Around} {E : Value -> Shared -> Prop} {s : Shared} (h : wpAny M A t Q E s) (hQ : ∀ a s, Q a s -> Q' a s) : wpAny M A t Q' E s := wpAny_mono h hQ fun _ _ x => x
end L2
namespace L2
open PySem PySem.Spec PyProof.Rows
section
variable {X : Cx}
inductive tVar (i : Nat) (σ : St) (H : Hp) (Q : VK) : Prop
  | mk (v : _) (z1_ : σ[i]? = some (some v)) (z2_ : Q v H) : tVar i σ H Q
def tC (v : V) : TE := fun _ H Q => Q v H
theorem pe_var {i : Nat} {x : Str} {pos : Pos} (hN : X.N[i]? = some x) (hv : Vis X.env.scope x) (hd : (x == ("__debug__" : Str)) = false := by decide) (hcd : (x == ("__classdict__" : Str)) = false := by decide) : PE X (.Name x pos) (tVar i) := by
  intro pins s σ H Q I h; obtain ⟨v, e, h⟩ := h; obtain ⟨m, hn, hl⟩ := I.loc; obtain ⟨u, r, l⟩ := hl i x v hN e hv; have fin : EP X pins σ Q u s := ⟨v, H, I, r, h⟩
  rcases l with ⟨hk, hm⟩ | ⟨hk, c, hc, hcell⟩
  . exact wpAny_Name (wpAny_loadName_local I.ok.kind hk hn hm fin) hd
  . rcases hk with hk | hk
    . exact wpAny_Name (wpAny_loadName_cell I.ok.kind hk hc hcell fin) hd
    . exact wpAny_Name (wpAny_loadName_free I.ok.kind hk hc hcell fin hcd) hd
theorem pe_int {i j pos} : PE X (.Constant (.int i) j pos) (tC (.int i)) := fun _ _ _ H _ I h => wpAny_Constant_int ⟨.int i, H, I.tok _, ⟨_, rfl⟩, h⟩
theorem pe_bl {b j pos} : PE X (.Constant (.bool b) j pos) (tC (.bl b)) := fun _ _ _ H _ I h => Constant_bool ⟨.bl b, H, I, rfl, h⟩
theorem pe_non {j pos} : PE X (.Constant .none j pos) (tC .non) := fun _ _ _ H _ I h => Constant_none ⟨.non, H, I, rfl, h⟩
theorem pe_str {x j pos} : PE X (.Constant (.str x) j pos) (tC (.str x)) := fun _ _ _ H _ I h => Calls.Constant_str ⟨.str x, H, I.tok _, ⟨_, rfl⟩, h⟩
def Gl (X : Cx) (x : Str) : Prop := X.env.kindOf x = some .globalImplicit
theorem ld_glob {E : Value -> Shared -> Prop} {pins : List (Addr × Obj)} {s : Shared} {σ : St} {H : Hp} {x : Str} {u : Value} {pos : Pos} {Q : Value -> Shared -> Prop} (I : Inv X pins σ H s) (hg : Gl X x) (hm : X.mg x = some u) (h : Q u s)
    (hd : (x == ("__debug__" : Str)) = false := by decide) : wpAny (model X.prog X.w) X.A (eval (.Name x pos) X.env) Q E s :=
  Calls.Name_function_global I.ok.kind hg (Calls.loadGlobal_global (by rw [I.ok.glob]; exact I.mod.glob.keeps I.bk) hm h) hd
theorem ld_blt {E : Value -> Shared -> Prop} {pins : List (Addr × Obj)} {s : Shared} {σ : St} {H : Hp} {x : Str} {u : Value} {pos : Pos} {Q : Value -> Shared -> Prop} (I : Inv X pins σ H s) (hg : Gl X x) (hm : X.mg x = none) (hv : bootBuiltins x = some u) (h : Q u s)
    (hn : x ≠ "__name__" := by decide) (hd : (x == ("__debug__" : Str)) = false := by decide) : wpAny (model X.prog X.w) X.A (eval (.Name x pos) X.env) Q E s := by
  obtain ⟨mb, h1, h2⟩ := I.mod.blt; exact Calls.Name_function_global I.ok.kind hg (Calls.loadGlobal_builtin (by rw [I.ok.glob]; exact I.mod.glob.keeps I.bk) hm (by rw [I.ok.blt]; exact h1.keeps I.bk) ((h2 x hn).trans hv) h) hd
theorem pe_glob {x : Str} {v : V} {u : Value} {pos : Pos} (hg : Gl X x) (hm : X.mg x = some u) (r : RelV v u) (hd : (x == ("__debug__" : Str)) = false := by decide) : PE X (.Name x pos) (tC v) :=
  fun _ _ _ H _ I h => ld_glob I hg hm ⟨v, H, I, r, h⟩ hd
theorem pe_bltn {x : Str} {v : V} {u : Value} {pos : Pos} (hg : Gl X x) (hm : X.mg x = none) (hv : bootBuiltins x = some u) (r : RelV v u) (hn : x ≠ "__name__" := by decide) (hd : (x == ("__debug__" : Str)) = false := by decide) : PE X (.Name x pos) (tC v) :=
  fun _ _ _ H _ I h => ld_blt I hg hm hv ⟨v, H, I, r, h⟩ hn hd
variable {a b : Expr} {ta tb : TE} {pos : Pos}
def PC (X : Cx) (op : CmpOp) (a b : Expr) (t : TE) : Prop :=
  ∀ (pins : List (Addr × Obj)) (s : Shared) (σ : St) (H : Hp) (Q : VK), Inv X pins σ H s -> t σ H Q ->
    wpAny (model X.prog X.w) X.A (eval a X.env) (fun v s₁ => wpAny (model X.prog X.w) X.A (eval b X.env) (fun u s₂ => wpAny (model X.prog X.w) X.A (compareOp op v u) (EP X pins σ Q) X.xe s₂) X.xe s₁) X.xe s
theorem nobehind (b : Expr) {op : CmpOp} (h : op ≠ .In) (h2 : op ≠ .NotIn) : behindInMarks op b = false := by
  have e1 : (op == CmpOp.In) = false := by cases op <;> first | rfl | exact absurd rfl h
  have e2 : (op == CmpOp.NotIn) = false := by cases op <;> first | rfl | exact absurd rfl h2
  cases b <;> simp [behindInMarks, e1, e2]
def tIsN (ta : TE) : TE := fun σ H Q => ta σ H fun x H1 => Q (.bl (decide (x = .non))) H1
def tNotN (ta : TE) : TE := fun σ H Q => ta σ H fun x H1 => Q (.bl (!decide (x = .non))) H1
theorem RelV.none_iff {x : V} {v : Value} (r : RelV x v) : (v == Value.none) = decide (x = .non) := by
  cases x with
  | non => cases r; rfl
  | bl _ => cases r; rfl
  | int _ => obtain ⟨t, rfl⟩ := r; rfl
  | str _ => obtain ⟨t, rfl⟩ := r; rfl
  | byt _ => obtain ⟨t, rfl⟩ := r; rfl
  | flt _ => obtain ⟨t, rfl⟩ := r; rfl
  | ref _ => cases r; rfl
  | ty _ => cases r; rfl
theorem pc_isN {j pos'} (ha : PE X a ta) : PC X .Is a (.Constant .none j pos') (tIsN ta) := by
  intro pins s σ H Q I h; refine thn (ha pins s σ H _ I h) fun v s1 ⟨x, H1, I1, r1, q1⟩ => ?_; exact Constant_none (is_none_gen ⟨.bl _, H1, I1, by rw [r1.none_iff]; rfl, q1⟩)
theorem pc_notN {j pos'} (ha : PE X a ta) : PC X .IsNot a (.Constant .none j pos') (tNotN ta) := by
  intro pins s σ H Q I h; refine thn (ha pins s σ H _ I h) fun v s1 ⟨x, H1, I1, r1, q1⟩ => ?_; exact Constant_none (isnot_none_gen ⟨.bl _, H1, I1, by rw [r1.none_iff]; rfl, q1⟩)
inductive isB (x : V) (H : Hp) (Q : Bool -> Hp -> Prop) : Prop
  | mk (c : Bool) (z1_ : x = .bl c) (z2_ : Q c H) : isB x H Q
def tB (t : TE) : TT := fun σ H Q => t σ H fun x H1 => isB x H1 Q
theorem pt_cmp {op : CmpOp} {t : TE} (h : PC X op a b t) (h1 : behindInMarks op b = false := by first | exact nobehind _ (by decide) (by decide) | rfl) : PT X (.Compare a [op] [b] pos) (tB t) := by
  intro pins s σ H Q I hw; refine wpAny_isTrue_Compare1 (thn (h pins s σ H _ I hw) fun v s1 h1 => thn h1 fun u s2 h2 => thn h2 fun c s3 ⟨x, H1, I1, r1, q1⟩ => ?_) h1; obtain ⟨d, rfl, q⟩ := q1
  cases r1
  exact wpAny_truthy_bool ⟨H1, I1, q⟩
theorem pt_val {e : Expr} {t : TE} (h : PE X e t) (he : ∀ whole, isTrue e X.env whole = (do let v <- whole; standAt e.pos; holding [v] (truthy v)) := by intro _; rfl) : PT X e (tB t) := by
  intro pins s σ H Q I hw; refine isTrue_plain (thn (h pins s σ H _ I hw) fun v s1 ⟨x, H1, I1, r1, q1⟩ => ?_) (he _); obtain ⟨d, rfl, q⟩ := q1
  cases r1
  exact wpAny_truthy_bool ⟨H1, I1, q⟩
variable {tA tB' : TT} {rest : List Expr}
def tAnd (t u : TT) : TT := fun σ H Q => t σ H fun c H1 => if c = true then u σ H1 Q else Q false H1
def tOr (t u : TT) : TT := fun σ H Q => t σ H fun c H1 => if c = true then Q true H1 else u σ H1 Q
def tNot (t : TT) : TT := fun σ H Q => t σ H fun c H1 => Q (!c) H1
theorem pw_and1 (ha : PT X a tA) : PW X (.BoolOp .And [a] pos) tA := by
  intro wh pins s σ H Q I h; refine isTrue_and (thn (ha pins s σ H Q I h) fun c s1 e => ?_)
  cases c with
  | true => exact isTrue_and_nil e
  | false => exact e
theorem pw_or1 (ha : PT X a tA) : PW X (.BoolOp .Or [a] pos) tA := by
  intro wh pins s σ H Q I h; refine isTrue_or (thn (ha pins s σ H Q I h) fun c s1 e => ?_)
  cases c with
  | false => exact isTrue_or_nil e
  | true => exact e
theorem pw_and (ha : PT X a tA) (hb : PW X (.BoolOp .And (b :: rest) pos) tB') : PW X (.BoolOp .And (a :: b :: rest) pos) (tAnd tA tB') := by
  intro wh pins s σ H Q I h; refine isTrue_and (thn (ha pins s σ H _ I h) fun c s1 ⟨H1, I1, q1⟩ => ?_)
  cases c with
  | true => exact hb wh pins s1 σ H1 Q I1 q1
  | false => exact ⟨H1, I1, q1⟩
theorem pw_or (ha : PT X a tA) (hb : PW X (.BoolOp .Or (b :: rest) pos) tB') : PW X (.BoolOp .Or (a :: b :: rest) pos) (tOr tA tB') := by
  intro wh pins s σ H Q I h; refine isTrue_or (thn (ha pins s σ H _ I h) fun c s1 ⟨H1, I1, q1⟩ => ?_)
  cases c with
  | true => exact ⟨H1, I1, q1⟩
  | false => exact hb wh pins s1 σ H1 Q I1 q1
theorem pt_not (ha : PT X a tA) : PT X (.UnaryOp .Not a pos) (tNot tA) := by
  intro pins s σ H Q I h; exact isTrue_not (ha pins s σ H (fun c H1 => Q (!c) H1) I h)
def tAndV (ta tb : TE) : TE := fun σ H Q => ta σ H fun x H1 => isB x H1 fun c H2 => if c = true then tb σ H2 Q else Q (.bl false) H2
def tNotV (ta : TE) : TE := fun σ H Q => ta σ H fun x H1 => isB x H1 fun c H2 => Q (.bl (!c)) H2
theorem pe_one {op} {t : TE} (h : PE X a t) : PE X (.BoolOp op [a] pos) t := fun pins s σ H Q I hw => BoolOp_one (h pins s σ H Q I hw)
theorem pe_and (ha : PE X a ta) (hb : PE X (.BoolOp .And (b :: rest) pos) tb) : PE X (.BoolOp .And (a :: b :: rest) pos) (tAndV ta tb) := by
  intro pins s σ H Q I h; refine BoolOp_and (thn (ha pins s σ H _ I h) fun v s1 ⟨x, H1, I1, r1, q1⟩ => ?_); obtain ⟨c, rfl, q1⟩ := q1
  cases r1
  refine wpAny_truthy_bool ?_
  cases c with
  | true => exact hb pins s1 σ H1 Q I1 q1
  | false => exact ⟨.bl false, H1, I1, rfl, q1⟩
theorem pe_not (ha : PE X a ta) : PE X (.UnaryOp .Not a pos) (tNotV ta) := by
  intro pins s σ H Q I h; refine UnaryOp_ (thn (ha pins s σ H _ I h) fun v s1 ⟨x, H1, I1, r1, q1⟩ => ?_); obtain ⟨c, rfl, q1⟩ := q1
  cases r1
  exact not_of (wpAny_truthy_bool ⟨.bl (!c), H1, I1, rfl, q1⟩)
def tIf (t : TT) (ta tb : TE) : TE := fun σ H Q => t σ H fun c H1 => if c = true then ta σ H1 Q else tb σ H1 Q
theorem pe_ifExp {c : Expr} (hc : PT X c tA) (ha : PE X a ta) (hb : PE X b tb) : PE X (.IfExp c a b pos) (tIf tA ta tb) := by
  intro pins s σ H Q I h; refine wpAny_IfExp (thn (hc pins s σ H _ I h) fun d s1 ⟨H1, I1, q1⟩ => ?_)
  cases d with
  | true => exact ha pins s1 σ H1 Q I1 q1
  | false => exact hb pins s1 σ H1 Q I1 q1
end
end L2
namespace L2
open PySem PySem.Spec PyProof.Rows
def SqL (K : PySem.W.Frag) (H : Hp) (a : Addr) (xs : List V) : Prop :=
  Rd H a (.lst xs) \/
    ∃ (o : Obj) (its : Array Value) (n : Nat), K.lookup a = some o /\ o.cls = .type "list" /\ o.dict = none /\ o.data = .seq its n /\ its.size <= sizeLine /\ Vals xs its.toList
def SqT (K : PySem.W.Frag) (H : Hp) (a : Addr) (xs : List V) : Prop :=
  Rd H a (.tup xs) \/
    ∃ (o : Obj) (its : Array Value) (n : Nat), K.lookup a = some o /\ o.cls = .type "tuple" /\ o.data = .seq its n /\ its.size <= sizeLine /\ Vals xs its.toList
def absV : Value -> Option V
  | .none => some .non
  | .bool b => some (.bl b)
  | .int i _ => some (.int i)
  | .str x _ => some (.str x)
  | .bytes b _ => some (.byt b)
  | .float b _ => some (.flt b)
  | .ref a => some (.ref a)
  | .type n => some (.ty n)
  | _ => none
theorem RelV.abs {x : V} {u : Value} (r : RelV x u) : absV u = some x := by
  cases x with
  | non => cases r; rfl
  | bl _ => cases r; rfl
  | int _ => obtain ⟨t, rfl⟩ := r; rfl
  | str _ => obtain ⟨t, rfl⟩ := r; rfl
  | byt _ => obtain ⟨t, rfl⟩ := r; rfl
  | flt _ => obtain ⟨t, rfl⟩ := r; rfl
  | ref _ => cases r; rfl
  | ty _ => cases r; rfl
theorem RelV.inj {x y : V} {u : Value} (r : RelV x u) (q : RelV y u) : x = y := Option.some.inj (r.abs.symm.trans q.abs)
theorem Vals.inj : ∀ {xs ys : List V} {us : List Value}, Vals xs us -> Vals ys us -> xs = ys
  | _, _, _, .nil, .nil => rfl
  | _, _, _, .cons r t, .cons r' t' => by rw [r.inj r', Vals.inj t t']
section
variable {X : Cx} {pins : List (Addr × Obj)} {σ : St} {H : Hp} {s : Shared} {a : Addr} {xs ys : List V}
theorem SqL.of {K : PySem.W.Frag} (h : H a = some (.lst xs)) : SqL K H a xs := .inl (.inl h)
theorem SqT.of {K : PySem.W.Frag} (h : H a = some (.tup xs)) : SqT K H a xs := .inl (.inl h)
theorem Inv.list (I : Inv X pins σ H s) (h : SqL X.K H a xs) : ∃ its : List Value, Vals xs its /\ PlainL s.heap a its.toArray /\ xs.length <= sizeLine := by
  rcases h with h | ⟨o, its, n, hk, hc, hd, hs, hz, r⟩
  . obtain ⟨z, its, n, r, e⟩ := h.ok I.hok
    exact ⟨its, r, ⟨_, n, e, rfl, rfl, rfl⟩, z⟩
  . refine ⟨its.toList, r, ⟨o, n, I.kIn a o hk, hc, hd, by simpa using hs⟩, ?_⟩
    have e := r.length
    simp only [Array.length_toList] at e
    omega
theorem Inv.tuple (I : Inv X pins σ H s) (h : SqT X.K H a xs) : ∃ its : List Value, Vals xs its /\ IsTup s.heap a its.toArray /\ xs.length <= sizeLine := by
  rcases h with h | ⟨o, its, n, hk, hc, hs, hz, r⟩
  . obtain ⟨z, its, r, p⟩ := h.ok I.hok
    exact ⟨its, r, p, z⟩
  . refine ⟨its.toList, r, ⟨o, I.kIn a o hk, hc, n, by simpa using hs⟩, ?_⟩
    have e := r.length
    simp only [Array.length_toList] at e
    omega
theorem Inv.list_inj (I : Inv X pins σ H s) (h : SqL X.K H a xs) (h' : SqL X.K H a ys) : xs = ys := by
  refine hld fun g_ k_ => ?_; obtain ⟨its, r, ⟨o, n, e, _, _, d⟩, _⟩ := I.list h; refine k_ ?_; refine hld fun g_ k_ => ?_; obtain ⟨its', r', ⟨o', n', e', _, _, d'⟩, _⟩ := I.list h'; refine k_ ?_; rw [e] at e'; cases e'; rw [d] at d'
  injection d' with d1 _
  have : its = its' := by simpa using congrArg Array.toList d1
  subst this; exact r.inj r'
end
abbrev Cx.wish (X : Cx) (E : Value -> Shared -> Prop) : Cx := { X with xe := E }
abbrev Cx.nox (X : Cx) : Cx := X.wish fun _ _ => False
theorem Cx.Ok.wish {X : Cx} (ok : X.Ok) (E : Value -> Shared -> Prop) : (X.wish E).Ok :=
  ⟨ok.mod, ok.kind, ok.glob, ok.blt, ok.above, ok.inj, ok.has, ok.cab, ok.hd, ok.frames, ok.stk, ok.exf, ok.bs, ok.bsz, ok.noex, ok.exfs, ok.funs, ok.frf⟩
theorem Cx.Ok.unwish {X : Cx} {E : Value -> Shared -> Prop} (ok : (X.wish E).Ok) : X.Ok :=
  ⟨ok.mod, ok.kind, ok.glob, ok.blt, ok.above, ok.inj, ok.has, ok.cab, ok.hd, ok.frames, ok.stk, ok.exf, ok.bs, ok.bsz, ok.noex, ok.exfs, ok.funs, ok.frf⟩
section
variable {X : Cx} {pins : List (Addr × Obj)} {σ : St} {H : Hp} {s : Shared} {E : Value -> Shared -> Prop}
theorem Inv.wish (I : Inv X pins σ H s) (E : Value -> Shared -> Prop) : Inv (X.wish E) pins σ H s := ⟨I.ok.wish E, I.os, I.bare, I.base, I.loc, I.cell, I.free, I.freeC, I.pin, I.hok, I.len⟩
theorem Inv.unwish (I : Inv (X.wish E) pins σ H s) : Inv X pins σ H s := ⟨I.ok.unwish, I.os, I.bare, I.base, I.loc, I.cell, I.free, I.freeC, I.pin, I.hok, I.len⟩
theorem SP.unwish {D : Ends} {f : Flow} {s' : Shared} (h : SP (X.wish E) pins D f s') : SP X pins D f s' := by
  cases f with
  | next => obtain ⟨σ', H', I, q⟩ := h; exact ⟨σ', H', I.unwish, q⟩
  | brk => obtain ⟨σ', H', I, q⟩ := h; exact ⟨σ', H', I.unwish, q⟩
  | cont => obtain ⟨σ', H', I, q⟩ := h; exact ⟨σ', H', I.unwish, q⟩
  | ret u => obtain ⟨v, σ', H', I, r, q⟩ := h; exact ⟨v, σ', H', I.unwish, r, q⟩
theorem PSs.nox {st : List Stmt} {t : TS} (h : PSs X.nox st t) : PSs X st t := fun pins s σ H D I hw =>
  wpAny_mono (h pins s σ H D (I.wish _) hw) (fun _ _ q => q.unwish) fun _ _ z => False.elim z
end
section
variable {X : Cx} {st : Stmt} {rest : List Stmt} {t u : TS} {e : Expr} {te : TE} {pos : Pos}
def tNext : TS := fun D σ H => D.nx σ H
def tSeq (t u : TS) : TS := fun D σ H => t { D with nx := u D } σ H
theorem pss_nil : PSs X [] tNext := fun _ _ σ H _ I h => wpAny_execs_nil ⟨σ, H, I, h⟩
theorem pss_cons (h1 : PS X st t) (h2 : PSs X rest u) : PSs X (st :: rest) (tSeq t u) := by
  intro pins s σ H D I h; refine wpAny_execs_cons (thn (h1 pins s σ H { D with nx := u D } I h) fun f s1 q => ?_)
  cases f with
  | next =>
    refine hld fun g_ k_ => ?_; obtain ⟨σ', H', I', q⟩ := q; refine k_ ?_; exact h2 pins s1 σ' H' D I' q
  | ret v => exact q
  | brk => exact q
  | cont => exact q
theorem pss_one (h1 : PS X st t) : PSs X [st] t := by
  intro pins s σ H D I h; refine wpAny_execs_cons (thn (h1 pins s σ H D I h) fun f s1 q => ?_)
  cases f with
  | next => exact wpAny_execs_nil q
  | ret v => exact q
  | brk => exact q
  | cont => exact q
theorem Inv.quiet {pins : List (Addr × Obj)} {σ : St} {H : Hp} {s : Shared} (I : Inv X pins σ H s) : interactive X.env = false := by simp [interactive, I.ok.kind]
def tDrop (te : TE) : TS := fun D σ H => te σ H fun _ H1 => D.nx σ H1
theorem ps_expr (he : PE X e te) (hs : swapsWith e none pos.line X.env = pure false := by rfl) : PS X (.Expr e pos) (tDrop te) := by
  intro pins s σ H D I h; exact wpAny_Expr_any (thn (he pins s σ H _ I h) fun v s1 ⟨x, H1, I1, r1, q1⟩ => ⟨σ, H1, I1, q1⟩) I.quiet hs
def tRet (te : TE) : TS := fun D σ H => te σ H D.rt
theorem ps_ret (he : PE X e te) : PS X (.Return (some e) pos) (tRet te) := by
  intro pins s σ H D I h; exact wpAny_Return_some (thn (he pins s σ H _ I h) fun v s1 ⟨x, H1, I1, r1, q1⟩ => ⟨x, σ, H1, I1, r1, q1⟩)
def tIfS (c : TT) (t u : TS) : TS := fun D σ H => c σ H fun b H1 => if b = true then t D σ H1 else u D σ H1
theorem ps_if {c : Expr} {a b : List Stmt} {tc : TT} (hc : PT X c tc) (ha : PSs X a t) (hb : PSs X b u) : PS X (.If c a b pos) (tIfS tc t u) := by
  intro pins s σ H D I h; refine wpAny_If (thn (hc pins s σ H _ I h) fun d s1 ⟨H1, I1, q1⟩ => ?_)
  cases d with
  | true => exact ha pins s1 σ H1 D I1 q1
  | false => exact hb pins s1 σ H1 D I1 q1
def tNever : TS := fun _ _ _ => False
theorem pss_never {sts : List Stmt} : PSs X sts tNever := fun _ _ _ _ _ _ h => h.elim
end
abbrev TG := V -> St -> Hp -> (St -> Hp -> Prop) -> Prop
abbrev TGs := List V -> St -> Hp -> (St -> Hp -> Prop) -> Prop
def PG (X : Cx) (target : Expr) (t : TG) : Prop :=
  ∀ (pins : List (Addr × Obj)) (s : Shared) (σ : St) (H : Hp) (v : V) (u : Value) (Q : St -> Hp -> Prop), Inv X pins σ H s -> RelV v u -> t v σ H Q ->
    wpAny (model X.prog X.w) X.A (assign target X.env u) (fun _ s' => ∃ σ' H', Inv X pins σ' H' s' /\ Q σ' H') X.xe s
def PGs (X : Cx) (ts : List Expr) (t : TGs) : Prop :=
  ∀ (pins : List (Addr × Obj)) (s : Shared) (σ : St) (H : Hp) (vs : List V) (us : List Value) (Q : St -> Hp -> Prop), Inv X pins σ H s -> Vals vs us -> t vs σ H Q ->
    wpAny (model X.prog X.w) X.A (assignInOrder ((assignEach ts X.env).map (·.2)) us) (fun _ s' => ∃ σ' H', Inv X pins σ' H' s' /\ Q σ' H') X.xe s
abbrev TSet := V -> V -> V -> Hp -> (Hp -> Prop) -> Prop
def PSet (X : Cx) (t : TSet) : Prop :=
  ∀ (pins : List (Addr × Obj)) (s : Shared) (σ : St) (H : Hp) (o i v : V) (ov iv u : Value) (Q : Hp -> Prop), Inv X pins σ H s -> RelV o ov -> RelV i iv -> RelV v u -> t o i v H Q ->
    wpAny (model X.prog X.w) X.A (setItem ov iv u) (fun _ s' => ∃ H', Inv X pins σ H' s' /\ Q H') X.xe s
section
variable {X : Cx} {pos : Pos}
def gName (i : Nat) : TG := fun v σ H Q => Q (σ.set i (some v)) H
theorem pg_name {i : Nat} {x : Str} (hN : X.N.Nodup) (hi : X.N[i]? = some x) (hx : Loc X.env.scope x) (hf : X.fn x = true \/ X.env.scope.names.lookup x = some .local := by first | exact .inl rfl | exact .inr rfl | assumption) : PG X (.Name x pos) (gName i) := by
  intro pins s σ H v u Q I r h; exact wpAny_assign_Name (store_ok I hN hi hx r (fun s' I' => ⟨_, H, I', h⟩) hf)
inductive gNil (vs : (List V)) (σ : St) (H : Hp) (Q : (St -> Hp -> Prop)) : Prop
  | mk (z1_ : vs = []) (z2_ : Q σ H) : gNil vs σ H Q
inductive gCons (t : TG) (u : TGs) (vs : (List V)) (σ : St) (H : Hp) (Q : (St -> Hp -> Prop)) : Prop
  | mk (v : _) (r : _) (z1_ : vs = v :: r) (z2_ : t v σ H fun σ' H' => u r σ' H' Q) : gCons t u vs σ H Q
theorem pgs_nil : PGs X [] gNil := by
  intro pins s σ H vs us Q I r h; obtain ⟨e, h⟩ := h; subst e
  cases r
  exact assignInOrder_nil ⟨σ, H, I, h⟩
theorem pgs_cons {e : Expr} {es : List Expr} {t : TG} {u : TGs} (h1 : PG X e t) (h2 : PGs X es u)
    (hs : (assignEach (e :: es) X.env).map (·.2) = assign e X.env :: (assignEach es X.env).map (·.2) := by rfl) : PGs X (e :: es) (gCons t u) := by
  intro pins s σ H vs us Q I r h; obtain ⟨v, vr, e1, h⟩ := h; subst e1
  cases r with
  | cons r rr =>
    rw [hs]; refine assignInOrder_cons (thn (h1 pins s σ H _ _ _ I r h) fun _ s1 ⟨σ1, H1, I1, q1⟩ => ?_); exact h2 pins s1 σ1 H1 _ _ Q I1 rr q1
inductive gTup (K : PySem.W.Frag) (n : Nat) (t : TGs) (v : V) (σ : St) (H : Hp) (Q : (St -> Hp -> Prop)) : Prop
  | mk (a : _) (xs : _) (z1_ : v = .ref a) (z2_ : SqT K H a xs) (z3_ : xs.length = n) (z4_ : t xs σ H Q) : gTup K n t v σ H Q
theorem pg_tup {es : List Expr} {k : Nat} {t : TGs} {n : Nat} (hc : X.calm = true) (h : PGs X es t)
    (hn : (assignEach es X.env).length = n := by rfl) (hst : (assignEach es X.env).findIdx? (·.1) = none := by rfl) : PG X (.Tuple es k pos) (gTup X.K n t) := by
  intro pins s σ H v u Q I r hw; refine hld fun g_ k_ => ?_; obtain ⟨a, xs, e1, hq, hl, hw⟩ := hw; refine k_ ?_; subst e1
  cases r
  refine hld fun g_ k_ => ?_; obtain ⟨its, rv, ht, hz⟩ := I.tuple hq; refine k_ ?_; refine assign_Tuple_tuple (I.ok.hd hc) ht (by simp [hn, <- hl, rv.length]) hst fun h' hx => ?_
  have I1 : Inv X pins σ H { s with heap := h' } := I.kept (t' := s.toks) fun b o e => hx b o (Nat.ne_of_lt (Heap.lt_size e)) e
  exact h pins _ σ H xs _ Q I1 (by simpa using rv) hw
def gSub (to ti : TE) (t : TSet) : TG := fun v σ H Q => to σ H fun o H1 => ti σ H1 fun i H2 => t o i v H2 fun H3 => Q σ H3
theorem pg_sub {o i : Expr} {to ti : TE} {t : TSet} (ho : PE X o to) (hi : PE X i ti) (hs : PSet X t)
    (ha : ∀ v, assign (.Subscript o i pos) X.env v = (do
      let ov <- holding [v] (eval o X.env)
      let iv <- holding [v, ov] (eval i X.env)
      standAt pos
      holding [v, ov, iv] (setItem ov iv v)
      release [v, ov, iv] []) := by intro _; rfl) : PG X (.Subscript o i pos) (gSub to ti t) := by
  intro pins s σ H v u Q I r h; rw [ha]; refine wpAny_bind (wpAny_holding (thn (ho pins s σ H _ I h) fun ov s1 ⟨x, H1, I1, r1, q1⟩ => ?_)); refine wpAny_bind (wpAny_holding (thn (hi pins s1 σ H1 _ I1 q1) fun iv s2 ⟨y, H2, I2, r2, q2⟩ => ?_)); refine wpAny_bind (wpAny_standAt (wpAny_bind (wpAny_holding (thn (hs pins s2 σ H2 x y v ov iv u _ I2 r1 r2 r q2) fun _ s3 ⟨H3, I3, q3⟩ => ?_)))); exact wpAny_release ⟨σ, H3, I3, q3⟩
def tAsg (te : TE) (g : TG) : TS := fun D σ H => te σ H fun x H1 => g x σ H1 D.nx
theorem ps_asg {tg e : Expr} {te : TE} {g : TG} (he : PE X e te) (hg : PG X tg g) (hs : swapsWithSole [tg] e pos.line X.env = pure false := by rfl) (hw : swappedStores [tg] e X.env = pure none := by rfl)
    (h1 : (assignEach [tg] X.env).map (·.2) = [assign tg X.env] := by rfl) : PS X (.Assign [tg] e pos) (tAsg te g) := by
  intro pins s σ H D I h; refine wpAny_Assign_stores (thn (he pins s σ H _ I h) fun v s1 ⟨x, H1, I1, r1, q1⟩ => ?_) hs hw; rw [h1]; exact thn (hg pins s1 σ H1 x v _ I1 r1 q1) fun _ s2 ⟨σ', H', I', q⟩ => ⟨σ', H', I', q⟩
theorem ps_set {i : Nat} {x : Str} {e : Expr} {te : TE} {pos' : Pos} (hN : X.N.Nodup) (hi : X.N[i]? = some x) (hx : Loc X.env.scope x) (he : PE X e te) (hs : swapsWith e (some (.Name x pos')) pos.line X.env = pure false := by rfl) (hf : X.fn x = true \/ X.env.scope.names.lookup x = some .local := by first | exact .inl rfl | exact .inr rfl | assumption) :
    PS X (.Assign [.Name x pos'] e pos) (tAsg te (gName i)) := by
  intro pins s σ H D I h; refine wpAny_Assign_Name (thn (he pins s σ H _ I h) fun v s1 ⟨y, H1, I1, r1, q1⟩ => ?_) hs; exact store_ok I1 hN hi hx r1 (fun s2 I2 => ⟨_, H1, I2, q1⟩) hf
end
section
variable {X : Cx} {pos : Pos}
def tWhile (c : TT) (tb : TS) : TS := fun D σ H => ∃ W : Nat -> St -> Hp -> Prop, (∃ m, W m σ H) /\ ∀ m σ H, W m σ H ->
  c σ H fun b H1 => if b = true then ∃ N : St -> Hp -> Prop, (∀ σ' H', N σ' H' -> ∃ m', m' < m /\ W m' σ' H') /\ tb { D with nx := N, ct := N, bk := D.nx } σ H1 else D.nx σ H1
theorem ps_while {c : Expr} {body : List Stmt} {tc : TT} {tb : TS} (hp : PassesOwn (model X.prog X.w) X.A X.env X.xe) (hc : PT X c tc) (hb : PSs X body tb) : PS X (.While c body [] pos) (tWhile tc tb) := by
  intro pins s σ H D I h; obtain ⟨W, ⟨m0, w0⟩, turn⟩ := h; refine wpAny_While (codeAny_whileLoop (fun n s' => ∃ σ' H', Inv X pins σ' H' s' /\ W n σ' H') ?_ m0 ⟨σ, H, I, w0⟩)
  rintro n s1 p_
  refine hld fun g_ k_ => ?_; obtain ⟨σ1, H1, I1, w1⟩ := p_; refine k_ ?_; refine wpAny_passesOwn hp (thn (hc pins s1 σ1 H1 _ I1 (turn n σ1 H1 w1)) fun b s2 ⟨H2, I2, q2⟩ => ?_)
  cases b with
  | true =>
    obtain ⟨N, hN, q2⟩ := q2; rw [if_pos rfl]; refine wpAny_passesOwn hp (thn (hb pins s2 σ1 H2 _ I2 q2) fun f s3 q3 => ?_)
    cases f with
    | next =>
      refine hld fun g_ k_ => ?_; obtain ⟨σ3, H3, I3, n3⟩ := q3; refine k_ ?_; obtain ⟨m', hm, w3⟩ := hN σ3 H3 n3; exact ⟨m', hm, σ3, H3, I3, w3⟩
    | cont =>
      refine hld fun g_ k_ => ?_; obtain ⟨σ3, H3, I3, n3⟩ := q3; refine k_ ?_; obtain ⟨m', hm, w3⟩ := hN σ3 H3 n3; exact ⟨m', hm, σ3, H3, I3, w3⟩
    | brk => exact q3
    | ret v => exact q3
  | false =>
    rw [if_neg Bool.false_ne_true]; exact wpAny_execs_nil ⟨σ1, H2, I2, q2⟩
end
structure It where
  go : Nat -> Hp -> Prop
  yld : Nat -> Hp -> V -> Hp -> Prop
  stop : Nat -> Hp -> Prop
def FpOk (X : Cx) (pins : List (Addr × Obj)) (H : Hp) (b : Addr) : Prop :=
  H b = none /\ b ≠ X.env.locals /\ b ∉ X.fs /\ (b ∈ X.ex \/ X.s₀.heap.objs.size <= b) /\ (∀ x c, X.env.cells.lookup x = some c -> c ≠ b) /\ ∀ p ∈ X.pn ++ pins, p.1 ≠ b
theorem Inv.fpOk {X : Cx} {pins : List (Addr × Obj)} {σ : St} {H H' : Hp} {s : Shared} {b : Addr} (I : Inv X pins σ H s) (hb : s.heap.objs.size <= b) (hn : H' b = none) : FpOk X pins H' b := by
  refine ⟨hn, Nat.ne_of_gt (Nat.lt_of_lt_of_le I.lt hb), I.nofs hb, .inr (Nat.le_trans I.sz hb), fun x c e z => ?_, fun p hp z => ?_⟩
  . obtain ⟨v, q⟩ := I.cell x c e
    exact absurd (Nat.lt_of_lt_of_le q.lt (by rw [z]; exact hb)) (Nat.lt_irrefl _)
  . exact absurd (Nat.lt_of_lt_of_le (Heap.lt_size (I.pin p hp).1) (by rw [z]; exact hb)) (Nat.lt_irrefl _)
structure Turn (P : Program) (w : World) (K : PySem.W.Frag) (tg : Expr) (J : It) (fp : List Addr) (it : Addr) (tn : Nat -> Heap -> Prop) : Prop where
  mem : it ∈ fp
  obj : ∀ i h, tn i h -> ∀ b ∈ fp, ∃ o, h.get? b = some o /\ ∀ v, o.data ≠ .cell v
  keep : ∀ i h h', tn i h -> (∀ b ∈ fp, ∀ o, h.get? b = some o -> h'.get? b = some o) -> tn i h'
  item : ∀ (X : Cx), X.prog = P -> X.w = w -> X.K = K -> X.calm = true -> ∀ (i : Nat) (pins : List (Addr × Obj)) (s : Shared) (σ : St) (H : Hp) (E : Value -> Shared -> Prop), Inv X pins σ H s -> (∀ b ∈ fp, FpOk X pins H b) -> tn i s.heap -> J.go i H ->
    wpAny (model P w) X.A (pyNext (.ref it)) (fun r s1 => ∃ u, r = some u /\
      wpAny (model P w) X.A (letOwnedTupleGo tg (.ref it) u) (fun _ s2 => ∃ x H', Inv X pins σ H' s2 /\ RelV x u /\ J.yld i H x H' /\ tn (i + 1) s2.heap /\ ∀ b ∈ fp, H' b = none) E s1) E s
  done : ∀ (X : Cx), X.prog = P -> X.w = w -> X.K = K -> X.calm = true -> ∀ (i : Nat) (pins : List (Addr × Obj)) (s : Shared) (σ : St) (H : Hp) (E : Value -> Shared -> Prop), Inv X pins σ H s -> (∀ b ∈ fp, FpOk X pins H b) -> tn i s.heap -> J.stop i H ->
    wpAny (model P w) X.A (pyNext (.ref it)) (fun r s1 => r = none /\ Inv X pins σ H s1) E s
  self : ∀ (A : Around) (i : Nat) (s : Shared) (Q : Value -> Shared -> Prop) (E : Value -> Shared -> Prop), tn i s.heap -> Q (.ref it) s -> wpAny (model P w) A (pyIter (.ref it)) Q E s
abbrev TI := St -> Hp -> (It -> Hp -> Prop) -> Prop
inductive PIE (X : Cx) (pins : List (Addr × Obj)) (σ : St) (tg : Expr) (R : It -> Hp -> Prop) (itv : Value) (s2 : Shared) : Prop
  | mk (it : Addr) (fp : List Addr) (tn : Nat -> Heap -> Prop) (J : It) (H' : Hp) (z1_ : itv = .ref it) (z2_ : Inv X pins σ H' s2) (z3_ : Turn X.prog X.w X.K tg J fp it tn) (z4_ : tn 0 s2.heap) (z5_ : (∀ b ∈ fp, FpOk X pins H' b)) (z6_ : R J H') : PIE X pins σ tg R itv s2
def PI (X : Cx) (tg iter : Expr) (wi : TI) : Prop :=
  ∀ (pins : List (Addr × Obj)) (s : Shared) (σ : St) (H : Hp) (R : It -> Hp -> Prop), Inv X pins σ H s -> wi σ H R ->
    wpAny (model X.prog X.w) X.A (eval iter X.env) (fun v s1 => wpAny (model X.prog X.w) X.A (pyIter v) (PIE X pins σ tg R) X.xe s1) X.xe s
theorem go_of {M : Model} {A : Around} {E : Value -> Shared -> Prop} {s : Shared} {tg : Expr} {it : Addr} {u : Value} {o : Obj} {n : String} {vs : Array Value} {Q : Unit -> Shared -> Prop} (ho : s.heap.get? it = some o) (hc : o.cls = .type n) (hd : o.data = .fields vs)
    (hn : ["enumerate", "zip", "dict_itemiterator", "dict_reverseitemiterator", "odict_iterator", "itertools.zip_longest", "itertools.pairwise"].contains n = false) (hQ : Q () s) : wpAny M A (letOwnedTupleGo tg (.ref it) u) Q E s := by
  unfold letOwnedTupleGo
  cases tg <;> first
    | exact wpAny_pure hQ
    | (cases u <;> first
        | exact wpAny_pure hQ
        | (refine wpAny_bind (wpAny_load ho ?_)
           rw [hc, hd]
           show wpAny M A (if (["enumerate", "zip", "dict_itemiterator", "dict_reverseitemiterator", "odict_iterator", "itertools.zip_longest", "itertools.pairwise"].contains n && vs[0]? == some (rawInt _)) = true then _ else _) Q E s
           rw [if_neg (by intro h; rw [hn, Bool.false_and] at h; cases h)]
           exact wpAny_pure hQ))
def Itl (K : PySem.W.Frag) (a : Addr) : It :=
  ⟨fun i H => ∃ xs x, SqL K H a xs /\ xs[i]? = some x, fun i H x H' => H' = H /\ ∀ xs, SqL K H a xs -> xs[i]? = some x, fun i H => ∃ xs, SqL K H a xs /\ xs.length <= i⟩
def Itr (lo : Int) (n : Nat) : It := ⟨fun i _ => i < n, fun i H x H' => H' = H /\ x = .int (lo + i), fun i _ => n <= i⟩
theorem turn_list {P : Program} {w : World} {K : PySem.W.Frag} {tg : Expr} (a it : Addr) : Turn P w K tg (Itl K a) [it] it (fun i h => h.IsListIter it a i) where
  mem := by simp
  obj := fun i h st b hb => by
    have e : b = it := by simpa using hb
    subst e; refine hld fun g_ k_ => ?_; obtain ⟨o, e, c, d⟩ := st; refine k_ ?_; exact ⟨o, e, fun v z => by rw [d] at z; cases z⟩
  keep := fun i h h' st k => st.at fun o e => k it (by simp) o e
  item := by
    intro X hP hw hK hc i pins s σ H E I hf st hg; subst hP hw hK; refine hld fun g_ k_ => ?_; obtain ⟨xs, x, hq, hx⟩ := hg; refine k_ ?_; refine hld fun g_ k_ => ?_; obtain ⟨its, rv, p, hz⟩ := I.list hq; refine k_ ?_; obtain ⟨u, hu, ru⟩ := rv.get hx; refine hld fun g_ k_ => ?_; obtain ⟨f0, f1, f2, f3, f4, f5⟩ := hf it (by simp); refine k_ ?_
    refine wpAny_pyNext_list_item st p.isList (x := u) (by simpa using hu) fun h' st' sb => ?_
    have I1 : Inv X pins σ H { s with heap := h' } := I.turned (t' := s.toks) (fun b o hb e => (sb.2 b hb).trans e) f0 f1 f3 f4 f5
    refine hld fun g_ k_ => ?_; obtain ⟨o, e, c, d⟩ := id st'; refine k_ ?_; exact ⟨u, rfl, go_of (s := { s with heap := h' }) e c d (by decide) ⟨x, H, I1, ru, ⟨rfl, fun ys hy => by rw [I.list_inj hy hq]; exact hx⟩, st', fun b hb => (hf b hb).1⟩⟩
  done := by
    intro X hP hw hK hc i pins s σ H E I hf st hg; subst hP hw hK; obtain ⟨xs, hq, hx⟩ := hg; refine hld fun g_ k_ => ?_; obtain ⟨its, rv, p, hz⟩ := I.list hq; refine k_ ?_; refine hld fun g_ k_ => ?_; obtain ⟨f0, f1, f2, f3, f4, f5⟩ := hf it (by simp); refine k_ ?_
    have hl := rv.length; exact wpAny_pyNext_list_end (I.ok.hd hc) st p.isList (by simp; omega) fun h' eb => ⟨rfl, I.turned (t' := s.toks) (fun b o hb e => eb b o hb e) f0 f1 f3 f4 f5⟩
  self := fun _ _ _ _ _ st h => wpAny_pyIter_listiter st h
theorem turn_range {P : Program} {w : World} {K : PySem.W.Frag} {tg : Expr} (it : Addr) (lo : Int) (n : Nat) : Turn P w K tg (Itr lo n) [it] it (fun i h => IsRangeIter h it (lo + (i : Nat) * 1) ((n : Int) - (i : Nat)) 1) where
  mem := by simp
  obj := fun i h st b hb => by
    have e : b = it := by simpa using hb
    subst e
    exact ⟨_, st, fun v z => by
      have z' : Data.fields _ = Data.cell v := z
      cases z'⟩
  keep := fun i h h' st k => k it (by simp) _ st
  item := by
    intro X hP hw hK hc i pins s σ H E I hf st hg; subst hP hw hK; refine hld fun g_ k_ => ?_; obtain ⟨f0, f1, f2, f3, f4, f5⟩ := hf it (by simp); refine k_ ?_
    have W := Walks.range (prog := X.prog) (w := X.w) (I.ok.hd hc) it lo 1 n; refine W.item i s _ _ hg st fun v h' tk hv st' kk => ?_; obtain ⟨t, rfl⟩ := hv; have I1 : Inv X pins σ H { s with heap := h', toks := tk } := I.turned (fun b o hb e => kk b o (by simpa using hb) e) f0 f1 f3 f4 f5
    refine ⟨_, rfl, go_of (s := { s with heap := h', toks := tk }) (n := "range_iterator") st' rfl rfl (by decide) ⟨.int (lo + i), H, I1, ⟨t, ?_⟩, ⟨rfl, rfl⟩, st', fun b hb => (hf b hb).1⟩⟩
    rw [Int.mul_one]
  done := by
    intro X hP hw hK hc i pins s σ H E I hf st hg; subst hP hw hK; refine hld fun g_ k_ => ?_; obtain ⟨f0, f1, f2, f3, f4, f5⟩ := hf it (by simp); refine k_ ?_
    exact wpAny_pyNext_range_end (I.ok.hd hc) st (by have : n <= i := hg; omega) fun h' eb => ⟨rfl, I.turned (t' := s.toks) (fun b o hb e => eb b o hb e) f0 f1 f3 f4 f5⟩
  self := fun _ _ _ _ _ st h => wpAny_pyIter_rangeiter st h
end L2
namespace L2
open PySem PySem.Spec PyProof.Rows
section
variable {X : Cx} {tg : Expr}
inductive isLs (K : PySem.W.Frag) (x : V) (H1 : Hp) (R : It -> Hp -> Prop) : Prop
  | mk (a : Addr) (z1_ : x = .ref a) (z2_ : ∃ xs, SqL K H1 a xs) (z3_ : R (Itl K a) H1) : isLs K x H1 R
def iList (K : PySem.W.Frag) (tl : TE) : TI := fun σ H R => tl σ H fun x H1 => isLs K x H1 R
theorem pi_list {l : Expr} {tl : TE} (hl : PE X l tl) : PI X tg l (iList X.K tl) := by
  intro pins s σ H R I h; refine thn (hl pins s σ H _ I h) fun v s1 ⟨x, H1, I1, r1, q1⟩ => ?_; refine hld fun g_ k_ => ?_; obtain ⟨a, e, ⟨xs, hq⟩, q⟩ := q1; refine k_ ?_; subst e
  cases r1
  refine hld fun g_ k_ => ?_; obtain ⟨its, rv, p, hz⟩ := I1.list hq; refine k_ ?_; refine wpAny_pyIter_list p.isList ?_; refine ⟨s1.heap.objs.size, [s1.heap.objs.size], _, _, H1, rfl, I1.kept (t' := s1.toks) fun b o e => Heap.get?_push_of_some _ e, turn_list a _, ⟨_, Heap.get?_push_size _ rfl, rfl, rfl⟩, fun b hb => ?_, q⟩; have e : b = s1.heap.objs.size := by simpa using hb
  subst e; exact I1.fpOk (Nat.le_refl _) (I1.hok.fresh (Nat.le_refl _))
theorem range_it {pins : List (Addr × Obj)} {σ : St} {H : Hp} {s : Shared} {R : It -> Hp -> Prop} {E : Value -> Shared -> Prop} {lo hi : Int} {t u v : Tok} {tk : Nat} (I : Inv X pins σ H s) (h1 : -(2 ^ 62) <= lo) (h2 : lo < 2 ^ 62) (h3 : -(2 ^ 62) <= hi) (h4 : hi < 2 ^ 62)
    (q : R (Itr lo (hi - lo).toNat) H) : wpAny (model X.prog X.w) X.A (pyIter (.ref s.heap.objs.size)) (PIE X pins σ tg R) E { s with heap := s.heap.push { cls := .type "range", data := .fields #[.int lo t, .int hi u, .int 1 v] }, toks := tk } := by
  refine wpAny_pyIter_range (IsRange.new ..) (small_one h1 h2 h3 h4) ?_; have I1 : Inv X pins σ H { s with heap := s.heap.push { cls := .type "range", data := .fields #[.int lo t, .int hi u, .int 1 v] }, toks := tk } := I.kept fun b o e => Heap.get?_push_of_some _ e
  refine ⟨(s.heap.push { cls := .type "range", data := .fields #[.int lo t, .int hi u, .int 1 v] }).objs.size, [(s.heap.push { cls := .type "range", data := .fields #[.int lo t, .int hi u, .int 1 v] }).objs.size], _, _, H, rfl,
    I1.kept (t' := tk) fun b o e => Heap.get?_push_of_some _ e, turn_range _ lo (hi - lo).toNat, ?_, fun b hb => ?_, q⟩
  . have e1 : lo + ((0 : Nat) : Int) * 1 = lo := by simp
    have e2 : (((hi - lo).toNat : Nat) : Int) - ((0 : Nat) : Int) = Builtin.Range.rangeSize lo hi 1 := by rw [rangeSize_one]; split <;> omega
    show IsRangeIter _ _ (lo + ((0 : Nat) : Int) * 1) ((((hi - lo).toNat : Nat) : Int) - ((0 : Nat) : Int)) 1
    rw [e1, e2]; exact Heap.get?_push_size _ rfl
  . have e : b = (s.heap.push { cls := .type "range", data := .fields #[.int lo t, .int hi u, .int 1 v] }).objs.size := by simpa using hb
    subst e; exact I1.fpOk (Nat.le_refl _) (I1.hok.fresh (Nat.le_refl _))
inductive isRng1 (vs : List V) (H1 : Hp) (R : It -> Hp -> Prop) : Prop
  | mk (j : Int) (z1_ : vs = [.int j]) (z2_ : -(2 ^ 62) <= j) (z3_ : j < 2 ^ 62) (z4_ : R (Itr 0 j.toNat) H1) : isRng1 vs H1 R
inductive isRng2 (vs : List V) (H1 : Hp) (R : It -> Hp -> Prop) : Prop
  | mk (i j : Int) (z1_ : vs = [.int i, .int j]) (z2_ : -(2 ^ 62) <= i /\ i < 2 ^ 62 /\ -(2 ^ 62) <= j /\ j < 2 ^ 62) (z3_ : R (Itr i (j - i).toNat) H1) : isRng2 vs H1 R
def iRng1 (ta : TA) : TI := fun σ H R => ta σ H fun vs H1 => isRng1 vs H1 R
def iRng2 (ta : TA) : TI := fun σ H R => ta σ H fun vs H1 => isRng2 vs H1 R
theorem pi_range1 {a : Expr} {ta : TA} {p pos : Pos} (hg : Gl X "range") (hm : X.mg "range" = none) (ha : PA X [a] ta) (hs : starEach [a] X.env = [(false, eval a X.env)] := by rfl) : PI X tg (.Call (.Name "range" p) [a] [] pos) (iRng1 ta) := by
  intro pins s σ H R I h; refine Call_ (ld_blt I hg hm boot_range (PyProof.Rows.callWith_type1 (thn (ha pos pins s σ H _ I h) fun us s1 ⟨vs, H1, I1, r1, q1⟩ => ?_) hs rfl)); refine hld fun g_ k_ => ?_; obtain ⟨j, e, q1, q2, q⟩ := q1; refine k_ ?_; subst e
  cases r1 with
  | cons r rr =>
    cases rr
    obtain ⟨t, rfl⟩ := r; exact call_range_1 (range_it I1 (by omega) (by omega) q1 q2 (by simpa using q))
theorem pi_range2 {a b : Expr} {ta : TA} {p pos : Pos} (hg : Gl X "range") (hm : X.mg "range" = none) (ha : PA X [a, b] ta) (hs : starEach [a, b] X.env = [(false, eval a X.env), (false, eval b X.env)] := by rfl) (hs2 : starEach [b] X.env = [(false, eval b X.env)] := by rfl) :
    PI X tg (.Call (.Name "range" p) [a, b] [] pos) (iRng2 ta) := by
  intro pins s σ H R I h; refine Call_ (ld_blt I hg hm boot_range (PyProof.Rows.callWith_type1 (thn (ha pos pins s σ H _ I h) fun us s1 ⟨vs, H1, I1, r1, q1⟩ => ?_) (by rw [hs, hs2]) (by rw [hs2]; rfl)))
  refine hld fun g_ k_ => ?_; obtain ⟨i, j, e, ⟨q1, q2, q3, q4⟩, q⟩ := q1; refine k_ ?_; subst e
  cases r1 with
  | cons r rr =>
    cases rr with
    | cons r' rr =>
      cases rr
      obtain ⟨t, rfl⟩ := r; obtain ⟨t', rfl⟩ := r'; exact call_range_2 (range_it I1 q1 q2 q3 q4 q)
def tFor (wi : TI) (g : TG) (tb : TS) : TS := fun D σ H => wi σ H fun J H1 => ∃ W : Nat -> Nat -> St -> Hp -> Prop, (∃ m, W 0 m σ H1) /\ ∀ i m σ H, W i m σ H ->
  (J.stop i H /\ D.nx σ H) \/ (J.go i H /\ ∃ N : St -> Hp -> Prop, (∀ σ' H', N σ' H' -> ∃ m', m' < m /\ W (i + 1) m' σ' H') /\ ∀ x H', J.yld i H x H' -> g x σ H' fun σ2 H2 => tb { D with nx := N, ct := N, bk := D.nx } σ2 H2)
def pinsAt (fp : List Addr) (h : Heap) : List (Addr × Obj) := fp.filterMap fun b => (h.get? b).map fun o => (b, o)
theorem mem_pinsAt {fp : List Addr} {h : Heap} {b : Addr} {o : Obj} (hb : b ∈ fp) (e : h.get? b = some o) : (b, o) ∈ pinsAt fp h := List.mem_filterMap.mpr ⟨b, hb, by rw [e]; rfl⟩
theorem of_pinsAt {fp : List Addr} {h : Heap} {p : Addr × Obj} (hp : p ∈ pinsAt fp h) : p.1 ∈ fp /\ h.get? p.1 = some p.2 := by
  obtain ⟨b, hb, e⟩ := List.mem_filterMap.mp hp
  cases q : h.get? b with
  | none => rw [q] at e; cases e
  | some o =>
    rw [q] at e; have e' : (b, o) = p := Option.some.inj e; subst e'; exact ⟨hb, q⟩
theorem Inv.pinned {pins : List (Addr × Obj)} {σ : St} {H : Hp} {s : Shared} {fp : List Addr} (I : Inv X pins σ H s) (hf : ∀ b ∈ fp, FpOk X pins H b) (ho : ∀ b ∈ fp, ∃ o, s.heap.get? b = some o /\ ∀ v, o.data ≠ .cell v) : Inv X (pins ++ pinsAt fp s.heap) σ H s :=
  I.pins_of fun p hp => (List.mem_append.mp hp).elim (fun z => I.pin p (List.mem_append_right _ z)) fun z => by
    obtain ⟨hb, e⟩ := of_pinsAt z; refine hld fun g_ k_ => ?_; obtain ⟨f0, f1, f2, _⟩ := hf p.1 hb; refine k_ ?_; obtain ⟨o, e', d⟩ := ho p.1 hb; rw [e] at e'; cases e'; exact ⟨e, f0, f1, f2, d⟩
theorem Inv.unpinned {pins pl : List (Addr × Obj)} {σ : St} {H : Hp} {s : Shared} (I : Inv X (pins ++ pl) σ H s) : Inv X pins σ H s := I.pins_of fun p hp => I.pin p (List.mem_append_right _ (List.mem_append_left _ hp))
theorem ps_for {iter : Expr} {body : List Stmt} {wi : TI} {g : TG} {tb : TS} {pos : Pos} (hp : PassesOwn (model X.prog X.w) X.A X.env X.xe) (hc : X.calm = true) (hi : PI X tg iter wi) (hg : PG X tg g) (hb : PSs X body tb)
    (hs : ∀ x, foldedSetIterable iter X.env x = pure x := by intro _; rfl) : PS X (.For tg iter body [] pos) (tFor wi g tb) := by
  intro pins s σ H D I h; refine wpAny_For (thn (hi pins s σ H _ I h) fun v s1 h1 => thn h1 fun itv s2 h2 => ?_) hs; refine hld fun g_ k_ => ?_; obtain ⟨it, fp, tn, J, H2, e, I2, T, st2, f2, W, ⟨m0, w0⟩, turn⟩ := h2; refine k_ ?_; subst e
  -- what stays true of the iterator's objects through the loop
  have stat : ∀ {H' : Hp}, (∀ b ∈ fp, H' b = none) -> ∀ b ∈ fp, FpOk X pins H' b := fun hn b hb => ⟨hn b hb, (f2 b hb).2⟩; refine codeAny_forLoop_any (fun n s' => ∃ i σ' H', Inv X pins σ' H' s' /\ tn i s'.heap /\ (∀ b ∈ fp, H' b = none) /\ W i n σ' H') ?_ m0 ⟨0, σ, H2, I2, st2, fun b hb => (f2 b hb).1, w0⟩
  rintro n s3 p_
  refine hld fun g_ k_ => ?_; obtain ⟨i, σ3, H3, I3, st3, fr3, w3⟩ := p_; refine k_ ?_
  rcases turn i n σ3 H3 w3 with ⟨stop, qn⟩ | ⟨go, N, hN, step⟩
  . refine wpAny_passesOwn hp (thn (T.done X rfl rfl rfl hc i pins s3 σ3 H3 X.xe I3 (stat fr3) st3 stop) fun r s4 ⟨hr, I4⟩ => ?_)
    subst hr; exact wpAny_execs_nil ⟨σ3, H3, I4, qn⟩
  . refine wpAny_passesOwn hp (thn (T.item X rfl rfl rfl hc i pins s3 σ3 H3 X.xe I3 (stat fr3) st3 go) fun r s4 ⟨u, hr, h4⟩ => ?_)
    subst hr; refine wpAny_passesOwn hp (thn h4 fun _ s5 ⟨x, H5, I5, r5, y5, st5, fr5⟩ => ?_); have I5' := I5.pinned (stat fr5) (T.obj _ _ st5); refine wpAny_passesOwn hp (thn (hg _ s5 σ3 H5 x u _ I5' r5 (step x H5 y5)) fun _ s6 ⟨σ6, H6, I6, q6⟩ => ?_); refine wpAny_passesOwn hp (thn (hb _ s6 σ6 H6 _ I6 q6) fun f s7 q7 => ?_)
    have again : ∀ {σ7 : St} {H7 : Hp}, Inv X (pins ++ pinsAt fp s5.heap) σ7 H7 s7 -> N σ7 H7 -> ∃ m, m < n /\ ∃ i σ' H', Inv X pins σ' H' s7 /\ tn i s7.heap /\ (∀ b ∈ fp, H' b = none) /\ W i m σ' H' := fun {σ7 H7} I7 n7 => by
      obtain ⟨m', hm, w7⟩ := hN σ7 H7 n7; refine ⟨m', hm, i + 1, σ7, H7, I7.unpinned, T.keep _ _ _ st5 fun b hb o e => (I7.pin (b, o) (List.mem_append_right _ (List.mem_append_right _ (mem_pinsAt hb e)))).1, fun b hb => ?_, w7⟩; obtain ⟨o, e, d⟩ := T.obj _ _ st5 b hb; exact (I7.pin (b, o) (List.mem_append_right _ (List.mem_append_right _ (mem_pinsAt hb e)))).2.1
    cases f with
    | next => obtain ⟨σ7, H7, I7, n7⟩ := q7; exact again I7 n7
    | cont => obtain ⟨σ7, H7, I7, n7⟩ := q7; exact again I7 n7
    | brk => obtain ⟨σ7, H7, I7, q7⟩ := q7; exact ⟨σ7, H7, I7.unpinned, q7⟩
    | ret v => obtain ⟨x7, σ7, H7, I7, r7, q7⟩ := q7; exact ⟨x7, σ7, H7, I7.unpinned, r7, q7⟩
end
theorem for_list {K : PySem.W.Frag} {a : Addr} {xs : List V} {g : TG} {tb : TS} {D : Ends} {σ : St} {H : Hp} (Pv : Nat -> St -> Hp -> Prop) (h0 : Pv 0 σ H) (hl : ∀ i σ H, i <= xs.length -> Pv i σ H -> SqL K H a xs)
    (hs : ∀ i x σ H, xs[i]? = some x -> Pv i σ H -> g x σ H fun σ2 H2 => tb { D with nx := Pv (i + 1), ct := Pv (i + 1), bk := D.nx } σ2 H2) (hd : ∀ σ H, Pv xs.length σ H -> D.nx σ H) :
    ∃ W : Nat -> Nat -> St -> Hp -> Prop, (∃ m, W 0 m σ H) /\ ∀ i m σ H, W i m σ H ->
      ((Itl K a).stop i H /\ D.nx σ H) \/ ((Itl K a).go i H /\ ∃ N : St -> Hp -> Prop, (∀ σ' H', N σ' H' -> ∃ m', m' < m /\ W (i + 1) m' σ' H') /\ ∀ x H', (Itl K a).yld i H x H' -> g x σ H' fun σ2 H2 => tb { D with nx := N, ct := N, bk := D.nx } σ2 H2) := by
  refine ⟨fun i m σ H => m = xs.length - i /\ i <= xs.length /\ Pv i σ H, ⟨xs.length, by simp, Nat.zero_le _, h0⟩, ?_⟩
  rintro i m σ H ⟨rfl, hi, p⟩
  have q := hl i σ H hi p
  by_cases hlt : i < xs.length
  . refine .inr ⟨⟨xs, xs[i], q, by simp [hlt]⟩, Pv (i + 1), fun σ' H' p' => ⟨xs.length - (i + 1), by omega, rfl, hlt, p'⟩, fun x H' y => ?_⟩
    obtain ⟨e, y⟩ := y; subst e; exact hs i x σ _ (y xs q) p
  . have e : i = xs.length := by omega
    subst e; exact .inl ⟨⟨xs, q, Nat.le_refl _⟩, hd σ H p⟩
theorem for_range {lo : Int} {n : Nat} {g : TG} {tb : TS} {D : Ends} {σ : St} {H : Hp} (Pv : Nat -> St -> Hp -> Prop) (h0 : Pv 0 σ H)
    (hs : ∀ i σ H, i < n -> Pv i σ H -> g (.int (lo + i)) σ H fun σ2 H2 => tb { D with nx := Pv (i + 1), ct := Pv (i + 1), bk := D.nx } σ2 H2) (hd : ∀ σ H, Pv n σ H -> D.nx σ H) :
    ∃ W : Nat -> Nat -> St -> Hp -> Prop, (∃ m, W 0 m σ H) /\ ∀ i m σ H, W i m σ H ->
      ((Itr lo n).stop i H /\ D.nx σ H) \/ ((Itr lo n).go i H /\ ∃ N : St -> Hp -> Prop, (∀ σ' H', N σ' H' -> ∃ m', m' < m /\ W (i + 1) m' σ' H') /\ ∀ x H', (Itr lo n).yld i H x H' -> g x σ H' fun σ2 H2 => tb { D with nx := N, ct := N, bk := D.nx } σ2 H2) := by
  refine ⟨fun i m σ H => m = n - i /\ i <= n /\ Pv i σ H, ⟨n, by simp, Nat.zero_le _, h0⟩, ?_⟩
  rintro i m σ H ⟨rfl, hi, p⟩
  by_cases hlt : i < n
  . refine .inr ⟨hlt, Pv (i + 1), fun σ' H' p' => ⟨n - (i + 1), by omega, rfl, hlt, p'⟩, fun x H' y => ?_⟩
    obtain ⟨e, y⟩ := y; subst e y; exact hs i σ _ hlt p
  . have e : i = n := by omega
    subst e; exact .inl ⟨Nat.le_refl _, hd σ H p⟩
theorem while_by {c : TT} {tb : TS} {D : Ends} {σ : St} {H : Hp} (Pv : St -> Hp -> Prop) (μ : St -> Hp -> Nat) (h0 : Pv σ H)
    (hs : ∀ σ H, Pv σ H -> c σ H fun b H1 => if b = true then tb { D with nx := fun σ' H' => Pv σ' H' /\ μ σ' H' < μ σ H, ct := fun σ' H' => Pv σ' H' /\ μ σ' H' < μ σ H, bk := D.nx } σ H1 else D.nx σ H1)
    (mono : ∀ σ H Q Q', (∀ b H1, Q b H1 -> Q' b H1) -> c σ H Q -> c σ H Q') : tWhile c tb D σ H := by
  refine ⟨fun m σ H => m = μ σ H /\ Pv σ H, ⟨_, rfl, h0⟩, ?_⟩
  rintro m σ H ⟨rfl, p⟩
  refine mono σ H _ _ (fun b H1 q => ?_) (hs σ H p)
  cases b with
  | true => exact ⟨_, fun σ' H' ⟨p', l⟩ => ⟨_, l, rfl, p'⟩, q⟩
  | false => exact q
end L2
namespace L2
open PySem PySem.Spec PyProof.Rows
abbrev R2 := V -> V -> Hp -> VK -> Prop
def OpR (X : Cx) (f : Value -> Value -> Sem Value) (r : R2) : Prop :=
  ∀ (pins : List (Addr × Obj)) (s : Shared) (σ : St) (H : Hp) (x y : V) (v u : Value) (Q : VK), Inv X pins σ H s -> RelV x v -> RelV y u -> r x y H Q ->
    wpAny (model X.prog X.w) X.A (f v u) (EP X pins σ Q) X.xe s
def UnR (X : Cx) (f : Value -> Sem Value) (r : V -> Hp -> VK -> Prop) : Prop :=
  ∀ (pins : List (Addr × Obj)) (s : Shared) (σ : St) (H : Hp) (x : V) (v : Value) (Q : VK), Inv X pins σ H s -> RelV x v -> r x H Q ->
    wpAny (model X.prog X.w) X.A (f v) (EP X pins σ Q) X.xe s
def CallR (X : Cx) (f : Value) (r : List V -> Hp -> VK -> Prop) : Prop :=
  ∀ (pins : List (Addr × Obj)) (s : Shared) (σ : St) (H : Hp) (xs : List V) (us : List Value) (Q : VK), Inv X pins σ H s -> Vals xs us -> r xs H Q ->
    wpAny (model X.prog X.w) X.A (call f us) (EP X pins σ Q) X.xe s
def tOp (r : R2) (ta tb : TE) : TE := fun σ H Q => ta σ H fun x H1 => tb σ H1 fun y H2 => r x y H2 Q
def tUn (r : V -> Hp -> VK -> Prop) (ta : TE) : TE := fun σ H Q => ta σ H fun x H1 => r x H1 Q
inductive rI (C : Int -> Int -> Prop) (g : Int -> Int -> V) (x : V) (y : V) (H : Hp) (Q : VK) : Prop
  | mk (i : _) (j : _) (z1_ : x = .int i) (z2_ : y = .int j) (z3_ : C i j) (z4_ : Q (g i j) H) : rI C g x y H Q
inductive rI0 (g : Int -> Int -> V) (x : V) (y : V) (H : Hp) (Q : VK) : Prop
  | mk (i : _) (j : _) (z1_ : x = .int i) (z2_ : y = .int j) (z3_ : Q (g i j) H) : rI0 g x y H Q
inductive rU (g : Int -> V) (x : V) (H : Hp) (Q : VK) : Prop
  | mk (i : _) (z1_ : x = .int i) (z2_ : Q (g i) H) : rU g x H Q
section
variable {X : Cx} {a b c : Expr} {ta tb tc : TE} {pos : Pos}
theorem binT (ha : PE X a ta) (hb : PE X b tb) {pins : List (Addr × Obj)} {s : Shared} {σ : St} {H : Hp} {R : V -> V -> Hp -> Prop} (I : Inv X pins σ H s)
    (h : ta σ H fun x H1 => tb σ H1 fun y H2 => R x y H2) {Q : Value -> Shared -> Prop} {f : Value -> Value -> Sem Value}
    (hf : ∀ v u s2 x y H2, Inv X pins σ H2 s2 -> RelV x v -> RelV y u -> R x y H2 -> wpAny (model X.prog X.w) X.A (f v u) Q X.xe s2) :
    wpAny (model X.prog X.w) X.A (eval a X.env) (fun v s₁ => wpAny (model X.prog X.w) X.A (eval b X.env) (fun u s₂ => wpAny (model X.prog X.w) X.A (f v u) Q X.xe s₂) X.xe s₁) X.xe s := by
  refine thn (ha pins s σ H _ I h) fun v s1 ⟨x, H1, I1, r1, q1⟩ => ?_; refine thn (hb pins s1 σ H1 _ I1 q1) fun u s2 ⟨y, H2, I2, r2, q2⟩ => ?_; exact hf v u s2 x y H2 I2 r1 r2 q2
theorem pe_op {op : Operator} {r : R2} (ho : OpR X (binaryOp op) r) (ha : PE X a ta) (hb : PE X b tb) : PE X (.BinOp a op b pos) (tOp r ta tb) := by
  intro pins s σ H Q I h; exact wpAny_BinOp (binT ha hb I h fun v u s2 x y H2 I2 rx ry q => ho pins s2 σ H2 x y v u Q I2 rx ry q)
theorem pe_un {op : UnaryOp} {r : V -> Hp -> VK -> Prop} (ho : UnR X (unaryOp op) r) (ha : PE X a ta) : PE X (.UnaryOp op a pos) (tUn r ta) := by
  intro pins s σ H Q I h; exact UnaryOp_ (thn (ha pins s σ H _ I h) fun v s1 ⟨x, H1, I1, r1, q1⟩ => ho pins s1 σ H1 x v Q I1 r1 q1)
theorem opI {f : Value -> Value -> Sem Value} {C : Int -> Int -> Prop} {g : Int -> Int -> Int}
    (rule : ∀ (i j : Int) (t u : Tok) (s : Shared) (Q : Value -> Shared -> Prop) (E : Value -> Shared -> Prop), C i j -> Q (.int (g i j) s.toks) { s with toks := s.toks + 1 } -> wpAny (model X.prog X.w) X.A (f (.int i t) (.int j u)) Q E s) :
    OpR X f (rI C fun i j => .int (g i j)) := by
  intro pins s σ H x y v u Q I rx ry h; obtain ⟨i, j, rfl, rfl, hc, q⟩ := h; obtain ⟨t, rfl⟩ := rx; obtain ⟨t', rfl⟩ := ry; exact rule i j t t' s _ _ hc ⟨.int (g i j), H, I.tok _, ⟨_, rfl⟩, q⟩
theorem opI0 {f : Value -> Value -> Sem Value} {g : Int -> Int -> Int}
    (rule : ∀ (i j : Int) (t u : Tok) (s : Shared) (Q : Value -> Shared -> Prop) (E : Value -> Shared -> Prop), Q (.int (g i j) s.toks) { s with toks := s.toks + 1 } -> wpAny (model X.prog X.w) X.A (f (.int i t) (.int j u)) Q E s) :
    OpR X f (rI0 fun i j => .int (g i j)) := by
  intro pins s σ H x y v u Q I rx ry h; obtain ⟨i, j, rfl, rfl, q⟩ := h; obtain ⟨t, rfl⟩ := rx; obtain ⟨t', rfl⟩ := ry; exact rule i j t t' s _ _ ⟨.int (g i j), H, I.tok _, ⟨_, rfl⟩, q⟩
theorem opB0 {f : Value -> Value -> Sem Value} {g : Int -> Int -> Bool}
    (rule : ∀ (i j : Int) (t u : Tok) (s : Shared) (Q : Value -> Shared -> Prop) (E : Value -> Shared -> Prop), Q (.bool (g i j)) s -> wpAny (model X.prog X.w) X.A (f (.int i t) (.int j u)) Q E s) :
    OpR X f (rI0 fun i j => .bl (g i j)) := by
  intro pins s σ H x y v u Q I rx ry h; obtain ⟨i, j, rfl, rfl, q⟩ := h; obtain ⟨t, rfl⟩ := rx; obtain ⟨t', rfl⟩ := ry; exact rule i j t t' s _ _ ⟨.bl (g i j), H, I, rfl, q⟩
def CDiv (i j : Int) : Prop := 0 < j /\ j < 1073741824
def CPow (i j : Int) : Prop := 0 <= j /\ j <= 1000000 /\ i.natAbs < 2 ^ 64
def CMul (i j : Int) : Prop := (-(2 ^ 64) < i /\ i < 2 ^ 64) \/ (-(2 ^ 64) < j /\ j < 2 ^ 64)
theorem CMul.ok {i j : Int} (h : CMul i j) : IntMulOk i j := by
  rcases h with ⟨h1, h2⟩ | ⟨h1, h2⟩
  . exact .of_left (intBits_le_64 h1 h2)
  . exact .of_right (intBits_le_64 h1 h2)
theorem op_add : OpR X (binaryOp .Add) (rI0 fun i j => .int (i + j)) := opI0 fun _ _ _ _ _ _ _ q => add_int q
theorem op_sub : OpR X (binaryOp .Sub) (rI0 fun i j => .int (i - j)) := opI0 fun _ _ _ _ _ _ _ q => sub_int q
theorem op_mul : OpR X (binaryOp .Mult) (rI CMul fun i j => .int (i * j)) := opI fun _ _ _ _ _ _ _ hc q => mul_int q hc.ok
theorem op_fdiv : OpR X (binaryOp .FloorDiv) (rI CDiv fun i j => .int (i / j)) := opI fun i j _ _ _ _ _ hc q => by
  have h1 : (0 : Int) < j := hc.1; have h2 : j < 1073741824 := hc.2; exact floordiv_int (by omega) (by rw [Int.fdiv_eq_ediv_of_nonneg i (by omega)]; exact q) (.inl (PyProof.noPylong_small (by omega)))
theorem op_mod : OpR X (binaryOp .Mod) (rI (fun _ j => 0 < j) fun i j => .int (i % j)) := opI fun i j _ _ _ _ _ hc q => by
  have h1 : (0 : Int) < j := hc; exact mod_int' (by omega) (by rw [Int.fmod_eq_emod_of_nonneg i (by omega)]; exact q)
theorem op_pow : OpR X (binaryOp .Pow) (rI CPow fun i j => .int (i ^ j.toNat)) := opI fun _ _ _ _ _ _ _ hc q => pow_int_small hc.1 hc.2.1 hc.2.2 q
theorem unI {f : Value -> Sem Value} {g : Int -> Int}
    (rule : ∀ (i : Int) (t : Tok) (s : Shared) (Q : Value -> Shared -> Prop) (E : Value -> Shared -> Prop), Q (.int (g i) s.toks) { s with toks := s.toks + 1 } -> wpAny (model X.prog X.w) X.A (f (.int i t)) Q E s) :
    UnR X f (rU fun i => .int (g i)) := by
  intro pins s σ H x v Q I rx h; obtain ⟨i, rfl, q⟩ := h; obtain ⟨t, rfl⟩ := rx; exact rule i t s _ _ ⟨.int (g i), H, I.tok _, ⟨_, rfl⟩, q⟩
theorem un_neg : UnR X (unaryOp .USub) (rU fun i => .int (-i)) := unI fun _ _ _ _ _ q => neg_int q
end
def scal : V -> V -> Bool
  | .non, .non => true | .non, .int _ => true | .int _, .non => true | .non, .bl _ => true | .bl _, .non => true | .non, .str _ => true | .str _, .non => true
  | .int _, .int _ => true | .bl _, .bl _ => true | .str _, .str _ => true | .byt _, .byt _ => true
  | .int _, .str _ => true | .str _, .int _ => true | .bl _, .str _ => true | .str _, .bl _ => true
  | _, _ => false
inductive rEq (x : V) (y : V) (H : Hp) (Q : VK) : Prop
  | mk (z1_ : scal x y = true) (z2_ : Q (.bl (decide (x = y))) H) : rEq x y H Q
inductive rNe (x : V) (y : V) (H : Hp) (Q : VK) : Prop
  | mk (z1_ : scal x y = true) (z2_ : Q (.bl (!decide (x = y))) H) : rNe x y H Q
theorem dec_int {i j : Int} : decide (V.int i = V.int j) = (i == j) := by
  rw [Bool.eq_iff_iff]
  simp
theorem dec_bl {i j : Bool} : decide (V.bl i = V.bl j) = (i == j) := by
  rw [Bool.eq_iff_iff]
  simp
theorem dec_str {i j : Str} : decide (V.str i = V.str j) = (i == j) := by
  rw [Bool.eq_iff_iff]
  simp
theorem dec_byt {i j : Array UInt8} : decide (V.byt i = V.byt j) = (i.toList == j.toList) := by
  rw [Bool.eq_iff_iff]
  cases i
  cases j
  simp
section
variable {X : Cx} {a b c : Expr} {ta tb tc : TE} {pos : Pos}
theorem fin_bl {pins : List (Addr × Obj)} {σ : St} {H : Hp} {s : Shared} {Q : VK} {k k' : Bool} (I : Inv X pins σ H s) (q : Q (.bl k) H) (e : k = k') : EP X pins σ Q (.bool k') s := by
  subst e; exact ⟨.bl k, H, I, rfl, q⟩
theorem op_eq : OpR X (compareOp .Eq) rEq := by
  intro pins s σ H x y v u Q I rx ry h; obtain ⟨hs, q⟩ := h
  cases x with
  | non =>
    cases rx
    cases y with
    | non => cases ry; exact PySem.EqNone.eq_none_none (fin_bl I q (by simp))
    | bl j => cases ry; exact PySem.EqNone.eq_none_bool (fin_bl I q (by simp))
    | int j => obtain ⟨t', rfl⟩ := ry; exact PySem.EqNone.eq_none_int (fin_bl I q (by simp))
    | str j => obtain ⟨t', rfl⟩ := ry; exact PySem.EqNone.eq_none_str (fin_bl I q (by simp))
    | _ => exact absurd (show false = true from hs) Bool.false_ne_true
  | bl i =>
    cases rx
    cases y with
    | non => cases ry; exact PySem.EqNone.eq_bool_none (fin_bl I q (by simp))
    | bl j => cases ry; exact eq_bool (fin_bl I q dec_bl)
    | str j => obtain ⟨t', rfl⟩ := ry; exact PySem.EqMixed.eq_bool_str (fin_bl I q (by simp))
    | _ => exact absurd (show false = true from hs) Bool.false_ne_true
  | int i =>
    obtain ⟨t, rfl⟩ := rx
    cases y with
    | non => cases ry; exact PySem.EqNone.eq_int_none (fin_bl I q (by simp))
    | int j => obtain ⟨t', rfl⟩ := ry; exact eq_int (fin_bl I q dec_int)
    | str j => obtain ⟨t', rfl⟩ := ry; exact PySem.EqMixed.eq_int_str (fin_bl I q (by simp))
    | _ => exact absurd (show false = true from hs) Bool.false_ne_true
  | str i =>
    obtain ⟨t, rfl⟩ := rx
    cases y with
    | non => cases ry; exact PySem.EqNone.eq_str_none (fin_bl I q (by simp))
    | bl j => cases ry; exact PySem.EqMixed.eq_str_bool (fin_bl I q (by simp))
    | int j => obtain ⟨t', rfl⟩ := ry; exact PySem.EqMixed.eq_str_int (fin_bl I q (by simp))
    | str j => obtain ⟨t', rfl⟩ := ry; exact eq_str (fin_bl I q dec_str)
    | _ => exact absurd (show false = true from hs) Bool.false_ne_true
  | byt i =>
    obtain ⟨t, rfl⟩ := rx
    cases y with
    | byt j => obtain ⟨t', rfl⟩ := ry; exact PySem.W.eq_bytes (fin_bl I q dec_byt)
    | _ => exact absurd (show false = true from hs) Bool.false_ne_true
  | _ => cases y <;> exact absurd (show false = true from hs) Bool.false_ne_true
theorem op_ne : OpR X (compareOp .NotEq) rNe := by
  intro pins s σ H x y v u Q I rx ry h; obtain ⟨hs, q⟩ := h
  cases x with
  | non =>
    cases rx
    cases y with
    | non => cases ry; exact PySem.EqNone.ne_none_none (fin_bl I q (by simp))
    | bl j => cases ry; exact PySem.EqNone.ne_none_bool (fin_bl I q (by simp))
    | int j => obtain ⟨t', rfl⟩ := ry; exact PySem.EqNone.ne_none_int (fin_bl I q (by simp))
    | str j => obtain ⟨t', rfl⟩ := ry; exact PySem.EqNone.ne_none_str (fin_bl I q (by simp))
    | _ => exact absurd (show false = true from hs) Bool.false_ne_true
  | bl i =>
    cases rx
    cases y with
    | non => cases ry; exact PySem.EqNone.ne_bool_none (fin_bl I q (by simp))
    | bl j => cases ry; exact ne_bool (fin_bl I q (congrArg not dec_bl))
    | str j => obtain ⟨t', rfl⟩ := ry; exact PySem.EqMixed.ne_bool_str (fin_bl I q (by simp))
    | _ => exact absurd (show false = true from hs) Bool.false_ne_true
  | int i =>
    obtain ⟨t, rfl⟩ := rx
    cases y with
    | non => cases ry; exact PySem.EqNone.ne_int_none (fin_bl I q (by simp))
    | int j => obtain ⟨t', rfl⟩ := ry; exact ne_int (fin_bl I q (congrArg not dec_int))
    | str j => obtain ⟨t', rfl⟩ := ry; exact PySem.EqMixed.ne_int_str (fin_bl I q (by simp))
    | _ => exact absurd (show false = true from hs) Bool.false_ne_true
  | str i =>
    obtain ⟨t, rfl⟩ := rx
    cases y with
    | non => cases ry; exact PySem.EqNone.ne_str_none (fin_bl I q (by simp))
    | bl j => cases ry; exact PySem.EqMixed.ne_str_bool (fin_bl I q (by simp))
    | int j => obtain ⟨t', rfl⟩ := ry; exact PySem.EqMixed.ne_str_int (fin_bl I q (by simp))
    | str j => obtain ⟨t', rfl⟩ := ry; exact ne_str (fin_bl I q (congrArg not dec_str))
    | _ => exact absurd (show false = true from hs) Bool.false_ne_true
  | byt i =>
    obtain ⟨t, rfl⟩ := rx
    cases y with
    | byt j => obtain ⟨t', rfl⟩ := ry; exact PySem.W.ne_bytes (fin_bl I q (congrArg not dec_byt))
    | _ => exact absurd (show false = true from hs) Bool.false_ne_true
  | _ => cases y <;> exact absurd (show false = true from hs) Bool.false_ne_true
theorem op_lt : OpR X (compareOp .Lt) (rI0 fun i j => .bl (decide (i < j))) := opB0 fun _ _ _ _ _ _ _ q => lt_int q
theorem op_gt : OpR X (compareOp .Gt) (rI0 fun i j => .bl (decide (j < i))) := opB0 fun _ _ _ _ _ _ _ q => gt_int q
theorem op_ge : OpR X (compareOp .GtE) (rI0 fun i j => .bl (decide (j <= i))) := opB0 fun _ _ _ _ _ _ _ q => ge_int q
theorem nomark (b : Expr) {op : CmpOp} (h : op ≠ .In := by decide) (h2 : op ≠ .NotIn := by decide) : behindInMarks op b = false := by
  have e1 : (op == CmpOp.In) = false := by cases op <;> first | rfl | exact absurd rfl h
  have e2 : (op == CmpOp.NotIn) = false := by cases op <;> first | rfl | exact absurd rfl h2
  cases b <;> simp [behindInMarks, e1, e2]
theorem pe_cmpR {op : CmpOp} {r : R2} (ho : OpR X (compareOp op) r) (ha : PE X a ta) (hb : PE X b tb) (hm : behindInMarks op b = false) : PE X (.Compare a [op] [b] pos) (tOp r ta tb) := by
  intro pins s σ H Q I h; exact wpAny_Compare1 (binT ha hb I h fun v u s2 x y H2 I2 rx ry q => ho pins s2 σ H2 x y v u Q I2 rx ry q) hm
def tTest (t : TE) : TT := fun σ H Q => t σ H fun x H' => isB x H' Q
theorem pt_cmpR {op : CmpOp} {r : R2} (ho : OpR X (compareOp op) r) (ha : PE X a ta) (hb : PE X b tb) (hm : behindInMarks op b = false) : PT X (.Compare a [op] [b] pos) (tTest (tOp r ta tb)) := by
  intro pins s σ H Q I h
  refine wpAny_isTrue_Compare1 (thn (ha pins s σ H _ I h) fun v s1 ⟨x, H1, I1, r1, q1⟩ => thn (hb pins s1 σ H1 _ I1 q1) fun u s2 ⟨y, H2, I2, r2, q2⟩ =>
    thn (ho pins s2 σ H2 x y v u _ I2 r1 r2 q2) fun c s3 ⟨z, H3, I3, r3, k, e, q3⟩ => ?_) hm
  subst e
  cases r3
  exact wpAny_truthy_bool ⟨H3, I3, q3⟩
theorem line63 : (sizeLine : Nat) < 2 ^ 63 := by rw [sizeLine_eq]; decide
theorem op_add_str : OpR X (binaryOp .Add) (fun x y H Q => ∃ i j, x = .str i /\ y = .str j /\ i.length + j.length <= sizeLine /\ Q (.str (i ++ j)) H) := by
  intro pins s σ H x y v u Q I rx ry h; obtain ⟨i, j, rfl, rfl, hz, q⟩ := h; obtain ⟨t, rfl⟩ := rx; obtain ⟨t', rfl⟩ := ry; exact add_str (fun t' tk => ⟨.str (i ++ j), H, I.tok _, ⟨_, rfl⟩, q⟩) hz
theorem vals1 {x : V} {us : List Value} (r : Vals [x] us) : ∃ u, us = [u] /\ RelV x u := by
  cases r with
  | cons r1 r2 => cases r2; exact ⟨_, rfl, r1⟩
theorem vals2 {x y : V} {us : List Value} (r : Vals [x, y] us) : ∃ u w', us = [u, w'] /\ RelV x u /\ RelV y w' := by
  cases r with
  | cons r1 r2 =>
    cases r2 with
    | cons r3 r4 => cases r4; exact ⟨_, _, rfl, r1, r3⟩
theorem call_max2 (hc : X.calm = true) : CallR X (.builtin "max") (fun xs H Q => ∃ i j, xs = [.int i, .int j] /\ Q (.int (if j > i then j else i)) H) := by
  intro pins s σ H xs us Q I r h; obtain ⟨i, j, rfl, q⟩ := h; refine hld fun g_ k_ => ?_; obtain ⟨u, w', rfl, ⟨t, rfl⟩, ⟨t', rfl⟩⟩ := vals2 r; refine k_ ?_; refine max_two_ints (I.ok.hd hc) fun h' tk k => ⟨_, H, I.kept k, ?_, q⟩
  by_cases hj : j > i
  . rw [if_pos hj, if_pos hj]; exact ⟨_, rfl⟩
  . rw [if_neg hj, if_neg hj]; exact ⟨_, rfl⟩
theorem call_int1 : CallR X (.type "int") (fun xs H Q => (∃ i, xs = [.int i] /\ Q (.int i) H) \/ ∃ k, xs = [.bl k] /\ Q (.int (if k then 1 else 0)) H) := by
  intro pins s σ H xs us Q I r h
  rcases h with ⟨i, rfl, q⟩ | ⟨k, rfl, q⟩
  . obtain ⟨u, rfl, t, rfl⟩ := vals1 r
    exact call_int_int ⟨.int i, H, I, ⟨_, rfl⟩, q⟩
  . obtain ⟨u, rfl, r1⟩ := vals1 r
    cases r1
    exact call_int_bool ⟨.int (if k then 1 else 0), H, I.tok _, ⟨_, rfl⟩, q⟩
end
end L2
namespace L2
open PySem PySem.Spec PyProof.Rows
structure ObjM (h : Heap) (x dx C : Addr) (mA : Str -> Option Value) : Prop where
  obj : h.get? x = some (PySem.W.instObj C dx)
  ns : h.Ns1 dx mA
  ne : dx ≠ x
theorem lookIn_ns {h : Heap} {dx : Addr} {mA : Str -> Option Value} (n : h.Ns1 dx mA) : ∃ od, h.get? dx = some od /\ ∀ name, PySem.W.lookIn name od = some (mA name) := by
  refine hld fun g_ k_ => ?_; obtain ⟨o, es, ep, ho, hd, hk, _, hm⟩ := n; refine k_ ?_; refine ⟨o, ho, fun name => ?_⟩; have e := hm name
  unfold nsFind findBy at e
  rw [<- Array.find?_toList] at e
  unfold PySem.W.lookIn
  rw [hd]
  dsimp only
  split
  . rename_i y q
    rw [q] at e; exact congrArg some e
  . rename_i q
    rw [q] at e
    have a : es.toList.any (·.refKey) = false := by
      rw [List.any_eq_false]; intro y hy; obtain ⟨z, t, hkey⟩ := hk y (Array.mem_toList_iff.mp hy)
      simp [DictEntry.refKey, hkey]
    have a' : ¬ es.toList.any (·.refKey) = true := by rw [a]; exact Bool.false_ne_true
    rw [if_neg a']; exact congrArg some e
theorem ObjM.look {h : Heap} {x dx C : Addr} {mA : Str -> Option Value} (I : ObjM h x dx C mA) : ∃ od, PySem.W.InstAt h x (PySem.W.instObj C dx) C (some od) /\ ∀ name, PySem.W.lookIn name od = some (mA name) :=
  let ⟨od, ho, hl⟩ := lookIn_ns I.ns
  ⟨od, ⟨I.obj, rfl, rfl, ho⟩, hl⟩
section
variable {prog : Program} {w : World} {A : Around} {E : Value -> Shared -> Prop} {s : Shared} {K : PySem.W.Frag} {x dx C f : Addr} {mA : Str -> Option Value} {name : Str} {v : Value}
theorem get_map {expr : Bool} {Q : Value -> Shared -> Prop} (X : K.In s.heap) (I : ObjM s.heap x dx C mA) (hg : PySem.W.plainGet K C name = true) (hh : PySem.W.hasDictIn K C = true)
    (ha : PySem.W.findIn K (.ref C) name = some none) (hv : mA name = some v) (hv' : PySem.W.handedIn v = true) (h : Q v { s with toks := s.toks + 1 }) :
    wpAny (model prog w) A (getAttr (.ref x) name expr) Q E s := by
  obtain ⟨od, J, hl⟩ := I.look; exact PySem.W.get_value X J (PySem.W.plainGet_of hg).1 (PySem.W.findObj_own hh ha rfl (by rw [hl, hv])) hv' h
theorem get_meth {pl : Sem Bool} {Q : Value × List Value -> Shared -> Prop} (X : K.In s.heap) (I : ObjM s.heap x dx C mA) (hg : PySem.W.plainGet K C name = true)
    (hf : PySem.W.findIn K (.ref C) name = some (some (.ref f))) (ht : PySem.W.isFn K (.ref f) = true) (hv : mA name = none) (h : Q (.ref f, [.ref x]) s) :
    wpAny (model prog w) A (getMethod (.ref x) name pl) Q E s := by
  obtain ⟨od, J, hl⟩ := I.look; exact PySem.W.method_fn X J (PySem.W.plainGet_of hg).1 (PySem.W.plainGet_of hg).2 hf (beq_iff_eq.mp ht) (by show (PySem.W.lookIn name od).map (·.isSome) = some false; rw [hl, hv]; rfl) h
theorem set_map {ns : List Str} {Q : Unit -> Shared -> Prop} (X : K.In s.heap) (I : ObjM s.heap x dx C mA)
    (hs : PySem.W.findIn K (.ref C) "__setattr__" = some (some (.builtin "object.__setattr__"))) (hp : PySem.W.plainOver K C = true) (ht : PySem.W.takerIn K C name = some none) (hh : PySem.W.hasDictIn K C = true)
    (hw : PySem.Within mA ns) (hsz : ns.length <= sizeLine)
    (h : ∀ h', ObjM h' x dx C (fun y => if y = name then some v else mA y) -> Heap.SameBut dx s.heap h' -> Q () { s with heap := h', toks := s.toks + 2 }) :
    wpAny (model prog w) A (setAttr (.ref x) name v) Q E s := by
  obtain ⟨od, J, hl⟩ := I.look; refine PySem.W.set_plain X J hs (PySem.W.osa_open (s := { s with toks := s.toks + 1 }) (r := none) X J hp ht fun b => ?_)
  obtain ⟨cd, hc, hd'⟩ := PySem.W.any_some hh; have hx : s.heap.get? x = some ⟨.ref C, some dx, .plain, #[]⟩ := I.obj; refine wpAny_bind (wpAny_pure (wpAny_bind (wpAny_bind (wpAny_loadPart hx (wpAny_bind (PySem.W.Looks.here (s := { s with toks := s.toks + 1 }) (PySem.W.looks_clsIn X hc) ?_))))))
  rw [hd']; refine wpAny_pure (a := some dx) (wpAny_bind (wpAny_pure (wpAny_bind ?_))); refine wpAny_nsSet1 (s := { s with toks := s.toks + 1 }) I.ns fun h' hn2 hs2 => ?_
  refine hld fun g_ k_ => ?_; obtain ⟨oD, esD, epD, hoD, hdD, hcD⟩ := hn2.count (PySem.Within.cons name v hw); refine k_ ?_; refine wpAny_bind (wpAny_lookBehind hoD (by rw [hdD]; exact pastItsLine_dict (Nat.le_trans hcD (by rw [List.length_cons]; omega))) ?_)
  exact wpAny_pure (h _ ⟨(hs2.2 _ (Ne.symm I.ne)).trans I.obj, hn2, I.ne⟩ hs2)
theorem make_map {R : Result -> Shared -> Prop} {vs : List Value} {kw : List (Str × Value)} (X : K.In s.heap) (hm : PySem.W.makesIn K C = true)
    (hi : PySem.W.findIn K (.ref C) "__init__" = some (some (.ref f))) (hf : PySem.W.typeIn K (.ref f) = some (.type "function"))
    (h : codeAny (model prog w) (A.under (.builtin "type.__call__" ⟨.ref C :: vs, kw⟩)) (.call (.ref f) ⟨.ref (s.heap.objs.size + 1) :: vs, kw⟩) (PySem.W.InitBack (s.heap.objs.size + 1) R)
      { s with heap := (s.heap.push PySem.W.emptyDict).push (PySem.W.instObj C s.heap.objs.size) }) :
    codeAny (model prog w) A (.call (.ref C) ⟨vs, kw⟩) R s := by
  refine hld fun g_ k_ => ?_; obtain ⟨hh, g, d, t, os⟩ := s; refine k_ ?_; exact PySem.W.make_core (PySem.W.makes_of X hm) (PySem.W.looks_findIn X hi) (fun self => PySem.W.bind_fn X self hf) (.inl rfl) h
end
def putF (f : Str) (v : V) : List (Str × V) -> List (Str × V)
  | [] => [(f, v)]
  | (g, x) :: r => if g = f then (g, v) :: r else (g, x) :: putF f v r
theorem lookup_putF (f g : Str) (v : V) : ∀ fs : List (Str × V), (putF f v fs).lookup g = if g = f then some v else fs.lookup g
  | [] => by
    show List.lookup g [(f, v)] = _
    by_cases h : g = f
    . have hb : (g == f) = true := beq_iff_eq.mpr h
      simp only [List.lookup, hb, if_pos h]
    . have hb : (g == f) = false := beq_eq_false_iff_ne.mpr h
      simp only [List.lookup, hb, if_neg h]
  | (k, x) :: r => by
    have ih := lookup_putF f g v r; rw [show putF f v ((k, x) :: r) = (if k = f then (k, v) :: r else (k, x) :: putF f v r) from rfl]
    by_cases hk : k = f
    . rw [if_pos hk]
      by_cases h : g = k
      . have hb : (g == k) = true := beq_iff_eq.mpr h
        simp only [List.lookup, hb, if_pos (h.trans hk)]
      . have hb : (g == k) = false := beq_eq_false_iff_ne.mpr h
        simp only [List.lookup, hb, if_neg (fun e : g = f => h (e.trans hk.symm))]
    . rw [if_neg hk]
      by_cases h : g = k
      . have hb : (g == k) = true := beq_iff_eq.mpr h
        simp only [List.lookup, hb, if_neg (fun e : g = f => hk (h.symm.trans e))]
      . have hb : (g == k) = false := beq_eq_false_iff_ne.mpr h
        simp only [List.lookup, hb]
        exact ih
theorem keys_putF (f : Str) (v : V) : ∀ fs : List (Str × V), f ∈ (putF f v fs).map (·.1) /\ ∀ g, g ∈ fs.map (·.1) -> g ∈ (putF f v fs).map (·.1)
  | [] => ⟨by simp [putF], fun g h => by simp at h⟩
  | (k, x) :: r => by
    obtain ⟨i1, i2⟩ := keys_putF f v r; rw [show putF f v ((k, x) :: r) = (if k = f then (k, v) :: r else (k, x) :: putF f v r) from rfl]
    by_cases hk : k = f
    . rw [if_pos hk]
      subst hk; exact ⟨by simp, fun g h => by simpa using h⟩
    . rw [if_neg hk]
      refine ⟨?_, fun g h => ?_⟩
      . rw [List.map_cons]
        exact List.mem_cons_of_mem _ i1
      . rw [List.map_cons] at h ⊢
        rcases List.mem_cons.mp h with e | e
        . exact List.mem_cons.mpr (.inl e)
        . exact List.mem_cons_of_mem _ (i2 g e)
theorem length_putF (f : Str) (v : V) : ∀ fs : List (Str × V), (putF f v fs).length <= fs.length + 1
  | [] => by simp [putF]
  | (k, x) :: r => by
    have ih := length_putF f v r; rw [show putF f v ((k, x) :: r) = (if k = f then (k, v) :: r else (k, x) :: putF f v r) from rfl]
    by_cases hk : k = f
    . rw [if_pos hk, List.length_cons, List.length_cons]; omega
    . rw [if_neg hk, List.length_cons, List.length_cons]; omega
theorem RelO.some_of {v : V} {o : Option Value} (r : RelO (some v) o) : ∃ u, o = some u /\ RelV v u := by
  cases o with
  | none => exact (show False from r).elim
  | some u => exact ⟨u, rfl, r⟩
theorem RelO.none_of {o : Option Value} (r : RelO none o) : o = none := by
  cases o with
  | none => rfl
  | some u => exact (show False from r).elim
theorem handed_of {v : V} {u : Value} (r : RelV v u) : PySem.W.handedIn u = true := by
  cases v with
  | non => cases (show u = Value.none from r); rfl
  | bl b => cases (show u = Value.bool b from r); rfl
  | int i => obtain ⟨t, e⟩ := (show ∃ t, u = Value.int i t from r); cases e; rfl
  | str x => obtain ⟨t, e⟩ := (show ∃ t, u = Value.str x t from r); cases e; rfl
  | byt b => obtain ⟨t, e⟩ := (show ∃ t, u = Value.bytes b t from r); cases e; rfl
  | flt b => obtain ⟨t, e⟩ := (show ∃ t, u = Value.float b t from r); cases e; rfl
  | ref a => cases (show u = Value.ref a from r); rfl
  | ty n => cases (show u = Value.type n from r); rfl
section
variable {P : Program} {w : World} {H H' : Hp} {h h' : Heap} {a C dx : Addr} {fs fs' : List (Str × V)}
theorem ins_get (hok : HOk P w H h) (e : H a = some (.ins C dx fs)) : ∃ mA, ObjM h a dx C mA /\ (∀ f, RelO (fs.lookup f) (mA f)) /\ PySem.Within mA (fs.map (·.1)) /\ fs.length <= 1000 /\ H dx = some (.own a) := by
  refine hld fun g_ k_ => ?_; obtain ⟨d, z, ne, ob, mA, n, r, q⟩ := (show ObjOk P w H h a (.ins C dx fs) from hok a _ e); refine k_ ?_
  exact ⟨mA, ⟨ob, n, ne⟩, r, q, z, d⟩
end
structure Cls (K : PySem.W.Frag) (C : Addr) : Prop where
  pg : PySem.W.plainGet K C Str.empty = true
  hd : PySem.W.hasDictIn K C = true
  po : PySem.W.plainOver K C = true
  sa : PySem.W.findIn K (.ref C) "__setattr__" = some (some (.builtin "object.__setattr__"))
theorem Cls.get {K : PySem.W.Frag} {C : Addr} (c : Cls K C) (f : Str) : PySem.W.plainGet K C f = true := c.pg
def NoAttr (K : PySem.W.Frag) (C : Addr) (f : Str) : Prop := PySem.W.findIn K (.ref C) f = some none
theorem NoAttr.taker {K : PySem.W.Frag} {C : Addr} {f : Str} (n : NoAttr K C f) : PySem.W.takerIn K C f = some none := by
  unfold PySem.W.takerIn
  rw [show PySem.W.findIn K (.ref C) f = some none from n]
  rfl
structure Meth (K : PySem.W.Frag) (C : Addr) (m : Str) (f : Addr) : Prop where
  at_ : PySem.W.findIn K (.ref C) m = some (some (.ref f))
  fn : PySem.W.isFn K (.ref f) = true
  kp : PySem.W.keepIn K (.ref f) = true
section
variable {X : Cx} {pins : List (Addr × Obj)} {σ : St} {H : Hp} {s : Shared} {a C dx : Addr} {fs : List (Str × V)} {f : Str} {v : V} {A : Around} {E : Value -> Shared -> Prop}
theorem getattr_ok {b : Bool} {Q : Value -> Shared -> Prop} (I : Inv X pins σ H s) (e : H a = some (.ins C dx fs)) (c : Cls X.K C) (n : NoAttr X.K C f) (l : fs.lookup f = some v)
    (h : ∀ u s', Inv X pins σ H s' -> RelV v u -> Q u s') : wpAny (model X.prog X.w) A (getAttr (.ref a) f b) Q E s := by
  refine hld fun g_ k_ => ?_; obtain ⟨mA, O, r, _, _, _⟩ := ins_get I.hok e; refine k_ ?_; obtain ⟨u, hu, ru⟩ := RelO.some_of (v := v) (o := mA f) (by rw [<- l]; exact r f)
  exact get_map I.kIn O (c.get f) c.hd n hu (handed_of ru) (h u _ (I.tok _) ru)
theorem getmeth_ok {m : Str} {g : Addr} {pl : Sem Bool} {Q : Value × List Value -> Shared -> Prop} (I : Inv X pins σ H s) (e : H a = some (.ins C dx fs)) (c : Cls X.K C) (k : Meth X.K C m g) (l : fs.lookup m = none)
    (h : Q (.ref g, [.ref a]) s) : wpAny (model X.prog X.w) A (getMethod (.ref a) m pl) Q E s := by
  refine hld fun g_ k_ => ?_; obtain ⟨mA, O, r, _, _, _⟩ := ins_get I.hok e; refine k_ ?_; have hn : mA m = none := RelO.none_of (by rw [<- l]; exact r m)
  exact get_meth I.kIn O (c.get m) k.at_ k.fn hn h
theorem setattr_ok {y : V} {u : Value} {Q : Unit -> Shared -> Prop} (I : Inv X pins σ H s) (e : H a = some (.ins C dx fs)) (c : Cls X.K C) (n : NoAttr X.K C f) (hl : fs.length < 1000) (ry : RelV y u)
    (h : ∀ s', Inv X pins σ (upd H a (.ins C dx (putF f y fs))) s' -> Q () s') : wpAny (model X.prog X.w) A (setAttr (.ref a) f u) Q E s := by
  refine hld fun g_ k_ => ?_; obtain ⟨mA, O, r, wi, _, ho⟩ := ins_get I.hok e; refine k_ ?_; have hz : (fs.map (·.1)).length <= sizeLine := by rw [List.length_map, sizeLine_eq]; omega
  refine set_map I.kIn O c.sa c.po n.taker c.hd wi hz fun h' O' sb => h _ ?_; have hd : ∃ o, h'.get? dx = some o := let ⟨o, _, _, e', _⟩ := O'.ns; ⟨o, e'⟩; refine I.write (x := a) (e := dx) (by rw [e]; exact True.intro) (.inr ho) (fun b q hb z => (sb.2 b hb).trans z) hd ?_
  refine ⟨by rw [upd_ne O.ne]; exact ho, ?_, O.ne, O'.obj, _, O'.ns, fun g => ?_, fun g hg => ?_⟩
  . have := length_putF f y fs; omega
  . show RelO ((putF f y fs).lookup g) (if g = f then some u else mA g)
    rw [lookup_putF]
    by_cases q : g = f
    . rw [if_pos q, if_pos q]; exact ry
    . rw [if_neg q, if_neg q]; exact r g
  . by_cases q : g = f
    . rw [q]; exact (keys_putF f y fs).1
    . refine (keys_putF f y fs).2 g (wi g fun z => hg ?_)
      show (if g = f then some u else mA g) = none
      rw [if_neg q]; exact z
theorem Inv.made (I : Inv X pins σ H s) : Inv X pins σ (upd (upd H s.heap.objs.size (.own (s.heap.objs.size + 1))) (s.heap.objs.size + 1) (.ins C s.heap.objs.size []))
    { s with heap := (s.heap.push PySem.W.emptyDict).push (PySem.W.instObj C s.heap.objs.size) } := by
  have e1 : (s.heap.push PySem.W.emptyDict).get? s.heap.objs.size = some PySem.W.emptyDict := Heap.get?_push_size s.heap rfl
  have e2 : ((s.heap.push PySem.W.emptyDict).push (PySem.W.instObj C s.heap.objs.size)).get? (s.heap.objs.size + 1) = some (PySem.W.instObj C s.heap.objs.size) := by
    have := Heap.get?_push_size (s.heap.push PySem.W.emptyDict) (o := PySem.W.instObj C s.heap.objs.size) rfl
    rwa [Heap.size_push] at this
  have e3 : (s.heap.push PySem.W.emptyDict).Ns s.heap.objs.size (fun _ => none) := ⟨PySem.W.emptyDict, #[], _, e1, rfl, (fun e he => absurd he (by simp)), fun _ => rfl⟩
  have I1 := I.laid (a := s.heap.objs.size) (o := .own (s.heap.objs.size + 1)) (h' := s.heap.push PySem.W.emptyDict) (t' := s.toks) (fun b u q => Heap.get?_push_of_some _ q) (Nat.le_refl _) ⟨_, e1⟩; refine I1.laid (a := s.heap.objs.size + 1) (o := .ins C s.heap.objs.size []) (t' := s.toks) (fun b u q => Heap.get?_push_of_some _ q) (Nat.le_of_eq (Heap.size_push _ _)) ?_; have ne : s.heap.objs.size ≠ s.heap.objs.size + 1 := Nat.ne_of_lt (Nat.lt_succ_self _); refine ⟨by rw [upd_ne ne, upd_same], Nat.zero_le _, ne, e2, fun _ => none, (Heap.Ns1.of_empty e3).at fun o q => Heap.get?_push_of_some _ q, fun _ => True.intro, fun y hy => absurd rfl hy⟩
theorem attr_of {prog : Program} {w : World} {env : Env} {e : Expr} {f : Str} {pos : Pos} {s : Shared} {Q : Value -> Shared -> Prop} (hb : attributeBase e f env (eval e env) = eval e env)
    (h : wpAny (model prog w) A (eval e env) (fun o s₁ => wpAny (model prog w) A (getAttr o f true) Q E s₁) E s) : wpAny (model prog w) A (eval (.Attribute e f pos) env) Q E s :=
  Attribute_any_ h (by rw [arm_eval_Attribute, hb])
end
inductive isFld (K : PySem.W.Frag) (f : Str) (x : V) (H1 : Hp) (Q : VK) : Prop
  | mk (a C dx : Addr) (fs : List (Str × V)) (v : V) (z1_ : x = .ref a) (z2_ : H1 a = some (.ins C dx fs)) (z3_ : Cls K C) (z4_ : NoAttr K C f) (z5_ : fs.lookup f = some v) (z6_ : Q v H1) : isFld K f x H1 Q
def tFld (K : PySem.W.Frag) (ta : TE) (f : Str) : TE := fun σ H Q => ta σ H fun x H1 => isFld K f x H1 Q
def sFld (K : PySem.W.Frag) (ta tv : TE) (f : Str) : TS := fun D σ H => tv σ H fun y H1 => ta σ H1 fun x H2 => ∃ a C dx fs, x = .ref a /\ H2 a = some (.ins C dx fs) /\ Cls K C /\ NoAttr K C f /\ fs.length < 1000 /\
  D.nx σ (upd H2 a (.ins C dx (putF f y fs)))
section
variable {X : Cx} {o e value : Expr} {f : Str} {pos pos' tpos : Pos} {ta tv : TE}
theorem pe_fld (he : PE X e ta) (hb : attributeBase e f X.env (eval e X.env) = eval e X.env) : PE X (.Attribute e f pos) (tFld X.K ta f) := by
  intro pins s σ H Q I h; refine attr_of hb (thn (he pins s σ H _ I h) fun u s1 ⟨x, H1, I1, rx, a, C, dx, fs, v, ex, ea, c, n, l, q⟩ => ?_); subst ex; obtain rfl : u = Value.ref a := rx; exact getattr_ok I1 ea c n l fun u' s2 I2 ru => ⟨v, H1, I2, ru, q⟩
theorem ps_fld (ha : PE X o ta) (hv : PE X value tv) (hs : swapsWith value (some (.Attribute o f pos')) pos.line X.env = pure false) : PS X (.Assign [.Attribute o f pos'] value pos) (sFld X.K ta tv f) := by
  intro pins s σ H D I h; refine plainObj_wpAny_Assign_Attribute (thn (hv pins s σ H _ I h) fun u s1 ⟨y, H1, I1, ry, q⟩ => thn (ha pins s1 σ H1 _ I1 q) fun ov s2 ⟨x, H2, I2, rx, a, C, dx, fs, ex, ea, c, n, l, q2⟩ => ?_) hs; subst ex; obtain rfl : ov = Value.ref a := rx; exact setattr_ok I2 ea c n l ry fun s3 I3 => ⟨σ, _, I3, q2⟩
end
section
variable {X : Cx} {pins : List (Addr × Obj)} {σ : St} {H : Hp} {s : Shared} {A : Around} {E : Value -> Shared -> Prop} {Q : Value -> Shared -> Prop} {c : Value} {b : Bool}
inductive TyOf (K : PySem.W.Frag) (H : Hp) : V -> Value -> Prop where
  | non : TyOf K H .non (.type "NoneType")
  | bl (x : Bool) : TyOf K H (.bl x) (.type "bool")
  | int (i : Int) : TyOf K H (.int i) (.type "int")
  | str (x : Str) : TyOf K H (.str x) (.type "str")
  | flt (x : UInt64) : TyOf K H (.flt x) (.type "float")
  | lst {a : Addr} {xs : List V} (e : H a = some (.lst xs)) : TyOf K H (.ref a) (.type "list")
  | frz {a : Addr} {o : Obj} {xs : List V} (e : H a = some (.frz o (.lst xs))) : TyOf K H (.ref a) (.type "list")
  | tup {a : Addr} {xs : List V} (e : H a = some (.tup xs)) : TyOf K H (.ref a) (.type "tuple")
  | dK {a : Addr} {kvs : List (Key × V)} (e : H a = some (.dK kvs)) : TyOf K H (.ref a) (.type "dict")
  | dT {a : Addr} {kvs : List (List Key × V)} (e : H a = some (.dT kvs)) : TyOf K H (.ref a) (.type "dict")
  | ins {a C dx : Addr} {fs : List (Str × V)} (e : H a = some (.ins C dx fs)) (cl : Cls K C) (ha : PySem.W.findIn K (.ref C) "__class__" = some (some (.builtin "object.__class__")))
      (hn : PySem.W.specialIn K (.builtin "object.__class__") "__get__" = some (some (.builtin "getset_descriptor.__get__"))) (htk : PySem.W.takesIn K (.builtin "object.__class__") = some true)
      (hm : PySem.W.mroIn K C (.type "object") = some true) : TyOf K H (.ref a) (.ref C)
theorem isinst_ok {x : V} {u t : Value} (I : Inv X pins σ H s) (rx : RelV x u) (ty : TyOf X.K H x t) (e : PySem.W.kitOne X.K t c = some b) (h : ∀ tk, Q (.bool b) { s with toks := tk }) :
    wpAny (model X.prog X.w) A (call (.builtin "isinstance") [u, c]) Q E s := by
  cases ty with
  | non => cases (show u = Value.none from rx); exact PySem.W.kia_one PySem.W.kitx_none I.kIn True.intro e (fun z => nomatch z) h
  | bl y => cases (show u = Value.bool y from rx); exact PySem.W.kia_one PySem.W.kitx_bool I.kIn True.intro e (fun z => nomatch z) h
  | int i => obtain ⟨t, q⟩ := (show ∃ t, u = Value.int i t from rx); cases q; exact PySem.W.kia_one PySem.W.kitx_int I.kIn True.intro e (fun z => nomatch z) h
  | str y => obtain ⟨t, q⟩ := (show ∃ t, u = Value.str y t from rx); cases q; exact PySem.W.kia_one PySem.W.kitx_str I.kIn True.intro e (fun z => nomatch z) h
  | flt y => obtain ⟨t, q⟩ := (show ∃ t, u = Value.float y t from rx); cases q; exact PySem.W.kia_one PySem.W.kitx_float I.kIn True.intro e (fun z => nomatch z) h
  | @lst a xs ea =>
    cases (show u = Value.ref a from rx)
    refine hld fun g_ k_ => ?_; obtain ⟨_, _, n, _, h1⟩ := (show ObjOk X.prog X.w H s.heap a (.lst xs) from I.hok a _ ea); refine k_ ?_
    exact PySem.W.kia_one PySem.W.kitx_list I.kIn ⟨_, h1, rfl⟩ e (fun z => nomatch z) h
  | @frz a ob xs ea =>
    cases (show u = Value.ref a from rx)
    refine hld fun g_ k_ => ?_; obtain ⟨_, _, _, n, _, h1⟩ := (show ObjOk X.prog X.w H s.heap a (.frz ob (.lst xs)) from I.hok a _ ea); refine k_ ?_
    exact PySem.W.kia_one PySem.W.kitx_list I.kIn ⟨_, h1, rfl⟩ e (fun z => nomatch z) h
  | @tup a xs ea =>
    cases (show u = Value.ref a from rx)
    refine hld fun g_ k_ => ?_; obtain ⟨_, _, _, p⟩ := (show ObjOk X.prog X.w H s.heap a (.tup xs) from I.hok a _ ea); refine k_ ?_
    refine hld fun g_ k_ => ?_; obtain ⟨o, h1, h2, _⟩ := p; refine k_ ?_; exact PySem.W.kia_one PySem.W.kitx_tuple I.kIn ⟨o, h1, h2⟩ e (fun z => nomatch z) h
  | @dK a kvs ea =>
    cases (show u = Value.ref a from rx)
    refine hld fun g_ k_ => ?_; obtain ⟨_, _, vs, _, p⟩ := (show ObjOk X.prog X.w H s.heap a (.dK kvs) from I.hok a _ ea); refine k_ ?_
    refine hld fun g_ k_ => ?_; obtain ⟨o, es, ep, h1, h2, _⟩ := p; refine k_ ?_; exact PySem.W.kia_one PySem.W.kitx_dict I.kIn ⟨o, h1, h2.1⟩ e (fun z => nomatch z) h
  | @dT a kvs ea =>
    cases (show u = Value.ref a from rx)
    refine hld fun g_ k_ => ?_; obtain ⟨_, _, xs, _, o, es, ep, h1, h2, _⟩ := (show ObjOk X.prog X.w H s.heap a (.dT kvs) from I.hok a _ ea); refine k_ ?_
    exact PySem.W.kia_one PySem.W.kitx_dict I.kIn ⟨o, h1, h2.1⟩ e (fun z => nomatch z) h
  | @ins a C dx fs ea cl ha hn htk hm =>
    cases (show u = Value.ref a from rx)
    obtain ⟨mA, O, _⟩ := ins_get I.hok ea; obtain ⟨od, J, _⟩ := O.look; exact PySem.W.kia_one (PySem.W.kitx_own (cl.get _) cl.hd ha hn htk hm) I.kIn J e (fun z => nomatch z) h
end
end L2
namespace L2
open PySem PySem.Spec PyProof.Rows
structure Room (k : Nat) (A : Around) : Prop where
  hd : A.handled = none
  dp : A.depth + 3 * k + 5 < recursionLimit
  un : A.units + 16 * k + 200 < cLine
theorem Room.mono {j k : Nat} {A : Around} (r : Room k A) (h : j <= k) : Room j A := ⟨r.hd, by have := r.dp; omega, by have := r.un; omega⟩
theorem Room.deeper {k : Nat} {A : Around} (r : Room (k + 1) A) (env : Env) : Room k (A.deeper env) :=
  ⟨r.hd, by have := r.dp; show A.depth + 1 + 3 * k + 5 < _; omega, by have := r.un; show A.units + 3 + 16 * k + 200 < _; omega⟩
theorem make_depth {A : Around} {C : Addr} {us : List Value} {kw : List (Str × Value)} : (A.under (.builtin "type.__call__" ⟨.ref C :: us, kw⟩)).depth = A.depth + 1 := by
  first | rfl | simp [Around.under, Code.weight, Code.isCreation, Code.isGuard, Code.isCaller, Code.frames, Code.isFrame, guardIds]
theorem make_units {A : Around} {C : Addr} {us : List Value} {kw : List (Str × Value)} : (A.under (.builtin "type.__call__" ⟨.ref C :: us, kw⟩)).units = A.units + 1 := by
  first | rfl | simp [Around.under, Code.cUnits, Code.frames, Code.isFrame]
theorem Room.make {k : Nat} {A : Around} (r : Room (k + 1) A) (C : Addr) (us : List Value) (kw : List (Str × Value)) : Room k (A.under (.builtin "type.__call__" ⟨.ref C :: us, kw⟩)) :=
  ⟨r.hd, by have := r.dp; rw [make_depth]; omega, by have := r.un; rw [make_units]; omega⟩
theorem Room.depth {k : Nat} {A : Around} (r : Room k A) : A.depth < recursionLimit := by have := r.dp; omega
theorem Room.units0 {k : Nat} {A : Around} (r : Room k A) : A.units < cLine := by have := r.un; omega
def tNil : TA := fun _ H Q => Q [] H
def tCons (ta : TE) (tr : TA) : TA := fun σ H Q => ta σ H fun x H1 => tr σ H1 fun xs H2 => Q (x :: xs) H2
section
variable {X : Cx} {e : Expr} {es : List Expr} {te : TE} {t : TA} {pos : Pos}
theorem pa_nil : PA X [] tNil := fun _ _ _ _ H Q I h => Calls.spliced_nil ⟨[], H, I, .nil, h⟩
theorem pa_cons (ha : PE X e te) (hr : PA X es t) (hs : starEach (e :: es) X.env = (false, eval e X.env) :: starEach es X.env := by rfl) : PA X (e :: es) (tCons te t) := by
  intro pos pins s σ H Q I h; rw [hs]
  show wpAny _ _ (spliced ((false, eval e X.env) :: backTo pos (starEach es X.env))) _ _ s
  refine Calls.spliced_cons (thn (ha pins s σ H _ I h) fun u s1 ⟨x, H1, I1, r1, q1⟩ => ?_); exact thn (hr pos pins s1 σ H1 _ I1 q1) fun us s2 ⟨xs, H2, I2, r2, q2⟩ => ⟨x :: xs, H2, I2, .cons r1 r2, q2⟩
inductive isNew (n : Nat) (H : Hp) (o : HO) (Q : VK) : Prop
  | mk (z1_ : n <= sizeLine) (z2_ : ∀ p, H p = none -> Q (.ref p) (upd H p o)) : isNew n H o Q
def tTup (t : TA) : TE := fun σ H Q => t σ H fun xs H1 => isNew xs.length H1 (.tup xs) Q
def tLst (t : TA) : TE := fun σ H Q => t σ H fun xs H1 => isNew xs.length H1 (.lst xs) Q
theorem pe_tup {x1} (h : PA X es t) : PE X (.Tuple es x1 pos) (tTup t) := by
  intro pins s σ H Q I hq; refine wpAny_Tuple_spliced (thn (h pos pins s σ H _ I hq) fun us s1 ⟨xs, H1, I1, r, z, q⟩ => ⟨by rw [<- r.length]; exact z, ?_⟩)
  have hf : H1 s1.heap.objs.size = none := I1.hok.fresh (Nat.le_refl _); refine ⟨.ref s1.heap.objs.size, upd H1 s1.heap.objs.size (.tup xs), I1.laid (t' := s1.toks) (fun b u e => Heap.get?_push_of_some _ e) (Nat.le_refl _) ?_, rfl, q _ hf⟩; exact ⟨z, us, r, ⟨_, Heap.get?_push_size _ rfl, rfl, _, rfl⟩⟩
theorem pe_lst (h : PA X es t) : PE X (.List es pos) (tLst t) := by
  intro pins s σ H Q I hq; refine wpAny_List_spliced (thn (h pos pins s σ H _ I hq) fun us s1 ⟨xs, H1, I1, r, z, q⟩ => ⟨by rw [<- r.length]; exact z, ?_⟩)
  have hf : H1 s1.heap.objs.size = none := I1.hok.fresh (Nat.le_refl _); refine ⟨.ref s1.heap.objs.size, upd H1 s1.heap.objs.size (.lst xs), I1.laid (t' := s1.toks) (fun b u e => Heap.get?_push_of_some _ e) (Nat.le_refl _) ?_, rfl, q _ hf⟩; exact ⟨z, us, 0, r, Heap.get?_push_size _ rfl⟩
end
abbrev Sp := List V -> Hp -> VK -> XK -> Prop
abbrev CXT := List Env -> Hp -> Shared -> XK -> Value -> Shared -> Prop
structure Env0 (P : Program) (w : World) (K : PySem.W.Frag) (mg : Str -> Option Value) (base : Heap) (A : Around) (outer : List Env) (s : Shared) (H : Hp) : Prop where
  frames : A.frames = some outer
  mod : Mod K mg base
  bs : ∀ b o, base.get? b = some o -> s.heap.get? b = some o /\ H b = none
  bsz : base.objs.size <= s.heap.objs.size
  funs : s.heap.FunFrames base outer
  frf : ∀ b ∈ frs outer, H b = none
  hok : HOk P w H s.heap
  bare : AllBare s.gens
inductive CE (outer : List Env) (P : Program) (w : World) (H : Hp) (s : Shared) (Q : VK) (u : Value) (s' : Shared) : Prop
  | mk (v : _) (H' : _) (z1_ : s'.os = s.os) (z2_ : AllBare s'.gens) (z3_ : Un (frs outer) [] H H' s.heap s'.heap) (z4_ : HOk P w H' s'.heap) (z5_ : RelV v u) (z6_ : Q v H') : CE outer P w H s Q u s'
def CR (CX : CXT) (outer : List Env) (P : Program) (w : World) (H : Hp) (s : Shared) (Q : VK) (E : XK) (r : Result) (s' : Shared) : Prop :=
  match r with
  | .ok (.ret u) => CE outer P w H s Q u s'
  | .ok _ => False
  | .error e => CX outer H s E e s'
structure FnOk (P : Program) (w : World) (K : PySem.W.Frag) (mg : Str -> Option Value) (base : Heap) (CX : CXT) (k : Nat) (f : Addr) (fd : FuncData) (ps : List Str) (sp : Sp) : Prop where
  len : ∀ vs H Q E, sp vs H Q E -> vs.length = ps.length
  run : ∀ (A : Around) (outer : List Env) (s : Shared) (H : Hp) (args : Args) (us : List Value) (vs : List V) (Q : VK) (E : XK), Room k A -> Env0 P w K mg base A outer s H -> BindsTo s fd args (ps.zip us) -> Vals vs us -> sp vs H Q E ->
    codeAny (model P w) A (.call (.ref f) args) (CR CX outer P w H s Q E) s
theorem Env0.make {P : Program} {w : World} {K : PySem.W.Frag} {mg : Str -> Option Value} {base : Heap} {A : Around} {outer : List Env} {s : Shared} {H : Hp} (e : Env0 P w K mg base A outer s H) (C : Addr) (us : List Value) (kw : List (Str × Value)) :
    Env0 P w K mg base (A.under (.builtin "type.__call__" ⟨.ref C :: us, kw⟩)) outer s H := ⟨by first | exact e.frames | (simpa [Around.under, Code.envs, Code.isFrame, pushEnvs] using e.frames), e.mod, e.bs, e.bsz, e.funs, e.frf, e.hok, e.bare⟩
section
variable {X : Cx} {pins : List (Addr × Obj)} {σ : St} {H : Hp} {s s' : Shared}
theorem Inv.env0 (I : Inv X pins σ H s) : Env0 X.prog X.w X.K X.mg X.base X.A X.stack s H :=
  ⟨I.ok.frames, I.ok.mod, I.bs, Nat.le_trans I.ok.bsz I.sz, I.stack, I.stkFree, I.hok, I.bare⟩
theorem Inv.after {Q : VK} {u : Value} (I : Inv X pins σ H s) (h : CE X.stack X.prog X.w H s Q u s') : EP X pins σ Q u s' := by
  obtain ⟨v, H', os, bare, un, hok, r, q⟩ := h; refine hld fun g_ k_ => ?_; obtain ⟨hh, g, d, t, os'⟩ := s'; refine k_ ?_; obtain rfl : os' = s.os := os; exact ⟨v, H', I.call (h' := hh) (g' := g) (d' := d) (t' := t) (ch := []) un hok bare (fun b z => absurd z (by simp)), r, q⟩
end
def tCall (sp : Sp) (dvs : List V) (E : XK) (t : TA) : TE := fun σ H Q => t σ H fun vs H1 => sp (vs ++ dvs) H1 Q E
inductive isIns (C : Addr) (m : Str) (x : V) (H1 : Hp) (q : Prop) : Prop
  | mk (a dx : Addr) (fs : List (Str × V)) (z1_ : x = .ref a) (z2_ : H1 a = some (.ins C dx fs)) (z3_ : fs.lookup m = none) (z4_ : q) : isIns C m x H1 q
def tMeth (C : Addr) (m : Str) (sp : Sp) (dvs : List V) (E : XK) (ta : TE) (t : TA) : TE := fun σ H Q => ta σ H fun x H1 => isIns C m x H1 (t σ H1 fun vs H2 => sp (x :: (vs ++ dvs)) H2 Q E)
def tMake (C : Addr) (sp : Sp) (dvs : List V) (E : XK) (t : TA) : TE := fun σ H Q => t σ H fun vs H1 => ∀ x dx, H1 x = none -> H1 dx = none -> dx ≠ x ->
  sp (.ref x :: (vs ++ dvs)) (upd (upd H1 dx (.own x)) x (.ins C dx [])) (fun v H2 => v = .non /\ Q (.ref x) H2) E
def Binds (K : PySem.W.Frag) (fd : FuncData) (ps : List Str) (ds : List Value) : Prop :=
  ∀ (s : Shared) (us : List Value), K.In s.heap -> (us ++ ds).length = ps.length -> BindsTo s fd ⟨us, []⟩ (ps.zip (us ++ ds))
theorem Binds.all {K : PySem.W.Frag} {fd : FuncData} {ps : List Str} (h : ∀ us : List Value, us.length = ps.length -> bindArgs fd ⟨us, []⟩ = pure (ps.zip us)) : Binds K fd ps [] := fun s us _ hl => by
  rw [List.append_nil] at hl ⊢; exact .of_eq (h us hl)
def Passes (CX : CXT) (X : Cx) (E : XK) : Prop := ∀ (pins : List (Addr × Obj)) (σ : St) (H : Hp) (s : Shared) (e : Value) (s' : Shared), Inv X pins σ H s -> CX X.stack H s E e s' -> X.xe e s'
section
variable {X : Cx} {CX : CXT} {k : Nat} {f C : Addr} {fd : FuncData} {ps : List Str} {sp : Sp} {dvs : List V} {ds : List Value} {E : XK} {x m : Str} {p pos apos : Pos} {e o : Expr} {es : List Expr} {ta : TE} {t : TA}
theorem run_fn {pins : List (Addr × Obj)} {σ : St} {H : Hp} {s : Shared} {Q : VK} {us : List Value} {vs : List V} (F : FnOk X.prog X.w X.K X.mg X.base CX k f fd ps sp) (hr : Room k X.A) (hb : Binds X.K fd ps ds) (hd : Vals dvs ds) (hx : Passes CX X E)
    (I : Inv X pins σ H s) (r : Vals vs us) (h : sp (vs ++ dvs) H Q E) : wpAny (model X.prog X.w) X.A (call (.ref f) us) (EP X pins σ Q) X.xe s := by
  have r2 : Vals (vs ++ dvs) (us ++ ds) := r.append hd; have hl : (us ++ ds).length = ps.length := by rw [<- r2.length]; exact F.len _ _ _ _ h
  refine wpAny_call (codeAny_mono (F.run X.A X.stack s H ⟨us, []⟩ (us ++ ds) (vs ++ dvs) Q E hr I.env0 (hb s us I.kIn hl) r2 h) fun r s' hq => ?_)
  cases r with
  | error e => exact hx pins σ H s e s' I hq
  | ok fl =>
    cases fl with
    | ret u => exact I.after hq
    | next => exact False.elim hq
    | brk => exact False.elim hq
    | cont => exact False.elim hq
theorem pe_call (F : FnOk X.prog X.w X.K X.mg X.base CX k f fd ps sp) (hr : Room k X.A) (hg : Gl X x) (hm : X.mg x = some (.ref f)) (hk : PySem.W.keepIn X.K (.ref f) = true) (hb : Binds X.K fd ps ds) (hd : Vals dvs ds) (hx : Passes CX X E)
    (ha : PA X (e :: es) t) (hdb : (x == ("__debug__" : Str)) = false := by decide) (he : starEach (e :: es) X.env = (false, eval e X.env) :: starEach es X.env := by rfl) (hpl : (backTo pos (starEach es X.env)).any (·.1) = false := by rfl) :
    PE X (.Call (.Name x p) (e :: es) [] pos) (tCall sp dvs E t) := by
  intro pins s σ H Q I h; refine wpAny_Call_Name_kw (ld_glob I hg hm ?_ hdb); refine PySem.W.callWith_K (h₀ := X.base) I.ok.mod.kin hk (thn (ha pos pins s σ H _ I h) fun us s1 ⟨vs, H1, I1, r, q⟩ => ⟨I1.kIn, ?_⟩) he hpl; exact run_fn F hr hb hd hx I1 r q
theorem pe_meth {pl : Sem Bool} (he : PE X o ta) (c : Cls X.K C) (hm : Meth X.K C m f) (F : FnOk X.prog X.w X.K X.mg X.base CX k f fd ps sp) (hr : Room k X.A) (hb : Binds X.K fd ps ds) (hd : Vals dvs ds) (hx : Passes CX X E) (ha : PA X (e :: es) t)
    (hst : starEach (e :: es) X.env = (false, eval e X.env) :: starEach es X.env := by rfl) (hpl : (backTo pos (starEach es X.env)).any (·.1) = false := by rfl)
    (ht : eval (.Call (.Attribute o m apos) (e :: es) [] pos) X.env = (do
      let ov <- eval o X.env
      standAt apos.atName
      let (f, first) <- holding [ov] (getMethod ov m pl)
      callWith pos f first (backTo pos (starEach (e :: es) X.env)) (backToKw pos (keywordEach [] X.env))) := by rfl) :
    PE X (.Call (.Attribute o m apos) (e :: es) [] pos) (tMeth C m sp dvs E ta t) := by
  intro pins s σ H Q I h; refine PySem.W.methodCall_KW (pl := pl) (thn (he pins s σ H _ I h) fun u s1 ⟨x, H1, I1, rx, a, dx, fs, ex, ea, l, q⟩ => ?_) ht; subst ex; obtain rfl : u = Value.ref a := rx; refine getmeth_ok I1 ea c hm l ?_; refine PySem.W.callWith_K (first := [.ref a]) (h₀ := X.base) I.ok.mod.kin hm.kp (thn (ha pos pins s1 σ H1 _ I1 q) fun us s2 ⟨vs, H2, I2, r, q2⟩ => ⟨I2.kIn, ?_⟩) hst hpl; exact run_fn (us := .ref a :: us) (vs := .ref a :: vs) F hr hb hd hx I2 (.cons rfl r) q2
structure Mk (K : PySem.W.Frag) (C f : Addr) : Prop where
  makes : PySem.W.makesIn K C = true
  init : PySem.W.findIn K (.ref C) "__init__" = some (some (.ref f))
  fn : PySem.W.isFn K (.ref f) = true
  kp : PySem.W.keepIn K (.ref C) = true
theorem run_make {pins : List (Addr × Obj)} {σ : St} {H : Hp} {s : Shared} {Q : VK} {us : List Value} {vs : List V} (M : Mk X.K C f) (F : FnOk X.prog X.w X.K X.mg X.base CX k f fd ps sp) (hr : Room (k + 1) X.A) (hb : Binds X.K fd ps ds) (hd : Vals dvs ds)
    (hx : Passes CX X E) (I : Inv X pins σ H s) (r : Vals vs us)
    (h : ∀ x dx, H x = none -> H dx = none -> dx ≠ x -> sp (.ref x :: (vs ++ dvs)) (upd (upd H dx (.own x)) x (.ins C dx [])) (fun v H2 => v = .non /\ Q (.ref x) H2) E) :
    wpAny (model X.prog X.w) X.A (call (.ref C) us) (EP X pins σ Q) X.xe s := by
  have hq := h (s.heap.objs.size + 1) s.heap.objs.size (I.hok.fresh (Nat.le_succ _)) (I.hok.fresh (Nat.le_refl _)) (Nat.ne_of_lt (Nat.lt_succ_self _)); have I2 := Inv.made (C := C) I; have r2 : Vals (V.ref (s.heap.objs.size + 1) :: (vs ++ dvs)) (Value.ref (s.heap.objs.size + 1) :: (us ++ ds)) := .cons rfl (r.append hd)
  have hl : (Value.ref (s.heap.objs.size + 1) :: us ++ ds).length = ps.length := by
    have e := r2.length; rw [F.len _ _ _ _ hq] at e; exact e.symm
  refine wpAny_call (make_map (f := f) I.kIn M.makes M.init (beq_iff_eq.mp M.fn) (codeAny_mono (F.run _ X.stack _ _ ⟨Value.ref (s.heap.objs.size + 1) :: us, []⟩ (Value.ref (s.heap.objs.size + 1) :: (us ++ ds)) _ _ E (hr.make C us [])
    (I2.env0.make C us []) (hb _ (Value.ref (s.heap.objs.size + 1) :: us) I2.kIn hl) r2 hq) fun r s' hq' => ?_))
  cases r with
  | error e => exact hx pins σ _ _ e s' I2 hq'
  | ok fl =>
    cases fl with
    | ret u =>
      refine hld fun g_ k_ => ?_; obtain ⟨v, H', I3, rv, ev, q3⟩ := I2.after hq'; refine k_ ?_; subst ev; exact ⟨rv, ⟨V.ref (s.heap.objs.size + 1), H', I3, rfl, q3⟩⟩
    | next => exact False.elim hq'
    | brk => exact False.elim hq'
    | cont => exact False.elim hq'
theorem pe_make0 (M : Mk X.K C f) (F : FnOk X.prog X.w X.K X.mg X.base CX k f fd ps sp) (hr : Room (k + 1) X.A) (hg : Gl X x) (hm : X.mg x = some (.ref C)) (hb : Binds X.K fd ps ds) (hd : Vals dvs ds) (hx : Passes CX X E)
    (hdb : (x == ("__debug__" : Str)) = false := by decide) : PE X (.Call (.Name x p) [] [] pos) (tMake C sp dvs E tNil) := by
  intro pins s σ H Q I h; refine wpAny_Call_Name_kw (ld_glob I hg hm ?_ hdb); exact PySem.W.callWith_K0 I.kIn M.kp (run_make (us := []) M F hr hb hd hx I .nil h)
end
structure FnScope (N P : List Str) (sc : Scope) : Prop where
  kind : sc.kind = .function
  co : sc.isCoroutine = false
  gen : sc.isGenerator = false
  nd : N.Nodup
  pre : N.take P.length = P
  par : ∀ x ∈ P, sc.names.lookup x = some .local \/ sc.names.lookup x = some .cell
  nofree : ∀ y ∈ sc.names, y.2 ≠ .free
theorem bindL_out {kindOf : Str -> Option NameKind} {x : Str} : ∀ {binds : List (Str × Value)} {m : Str -> Option Value}, (∀ v, (x, v) ∉ binds) -> bindL kindOf binds m x = m x
  | [], _, _ => rfl
  | (n, v) :: r, m, h => by
    unfold bindL
    rw [bindL_out fun w hw => h w (List.mem_cons_of_mem _ hw)]
    split
    . have : x ≠ n := by rintro rfl; exact h v List.mem_cons_self
      simp [this]
    . rfl
theorem bindC_out {kindOf : Str -> Option NameKind} {x : Str} : ∀ {binds : List (Str × Value)} {m : Str -> Option Value}, (∀ v, (x, v) ∉ binds) -> bindC kindOf binds m x = m x
  | [], _, _ => rfl
  | (n, v) :: r, m, h => by
    unfold bindC
    rw [bindC_out fun w hw => h w (List.mem_cons_of_mem _ hw)]
    split
    . rfl
    . have : x ≠ n := by rintro rfl; exact h v List.mem_cons_self
      simp [this]
theorem bindL_get {kindOf : Str -> Option NameKind} {x : Str} {v : Value} : ∀ {P : List Str} {vs : List Value} {i : Nat} {m : Str -> Option Value}, P.Nodup -> P[i]? = some x -> vs[i]? = some v -> kindOf x = some .local ->
    bindL kindOf (P.zip vs) m x = some v
  | [], _, _, _, _, h, _, _ => by simp at h
  | _ :: _, [], _, _, _, _, h, _ => by simp at h
  | p :: P, w :: vs, 0, m, nd, h1, h2, hk => by
    simp at h1 h2; subst h1; subst h2
    show bindL kindOf ((p, w) :: P.zip vs) m p = _
    unfold bindL
    rw [bindL_out fun v hv => (List.nodup_cons.mp nd).1 (List.of_mem_zip hv).1, if_pos hk]
    simp
  | p :: P, w :: vs, i + 1, m, nd, h1, h2, hk => by
    show bindL kindOf ((p, w) :: P.zip vs) m x = _
    unfold bindL
    exact bindL_get (i := i) (List.nodup_cons.mp nd).2 (by simpa using h1) (by simpa using h2) hk
theorem bindC_get {kindOf : Str -> Option NameKind} {x : Str} {v : Value} : ∀ {P : List Str} {vs : List Value} {i : Nat} {m : Str -> Option Value}, P.Nodup -> P[i]? = some x -> vs[i]? = some v -> kindOf x ≠ some .local ->
    bindC kindOf (P.zip vs) m x = some v
  | [], _, _, _, _, h, _, _ => by simp at h
  | _ :: _, [], _, _, _, _, h, _ => by simp at h
  | p :: P, w :: vs, 0, m, nd, h1, h2, hk => by
    simp at h1 h2; subst h1; subst h2
    show bindC kindOf ((p, w) :: P.zip vs) m p = _
    unfold bindC
    rw [bindC_out fun v hv => (List.nodup_cons.mp nd).1 (List.of_mem_zip hv).1, if_neg hk]
    simp
  | p :: P, w :: vs, i + 1, m, nd, h1, h2, hk => by
    show bindC kindOf ((p, w) :: P.zip vs) m x = _
    unfold bindC
    exact bindC_get (i := i) (List.nodup_cons.mp nd).2 (by simpa using h1) (by simpa using h2) hk
def start (N : List Str) (vs : List V) : St := vs.map some ++ List.replicate (N.length - vs.length) none
def cxOf (CX : CXT) (P : Program) (w : World) (K : PySem.W.Frag) (mg : Str -> Option Value) (base : Heap) (N : List Str) (qual : Str) (scope : Scope) (f : Addr) (cd : Value) (A : Around) (outer : List Env) (s : Shared) (H : Hp) (E : XK) : Cx where
  prog := P
  w := w
  K := K
  mg := mg
  base := base
  A := A.deeper (envOfC qual scope s.heap.objs.size f cd)
  N := N
  s₀ := s
  H₀ := H
  env := envOfC qual scope s.heap.objs.size f cd
  outer := outer
  stack := envOfC qual scope s.heap.objs.size f cd :: outer
  ex := []
  calm := true
  fn := fun _ => true
  pn := []
  xe := fun e s' => wpAny (model P w) (A.deeper (envOfC qual scope s.heap.objs.size f cd)) (leaving (envOfC qual scope s.heap.objs.size f cd) e) (fun _ s'' => CX outer H s E e s'') (fun e' s'' => CX outer H s E e' s'') s'
theorem cell_has {sc : Scope} {n : Nat} {x : Str} (h : sc.names.lookup x = some .cell) : ∃ c, (cellsFrom n sc.names []).lookup x = some c := by
  have q := PySem.W.cellsFrom_some sc.names n [] (.inl h); exact Option.isSome_iff_exists.mp q
theorem inv_start {CX : CXT} {P : Program} {w : World} {K : PySem.W.Frag} {mg : Str -> Option Value} {base : Heap} {N ps : List Str} {qual : Str} {scope : Scope} {f : Addr} {cd : Value} {A : Around} {outer : List Env} {s s1 : Shared} {H : Hp} {E : XK} {us : List Value} {vs : List V}
    (S : FnScope N ps scope) (hd : A.handled = none) (e0 : Env0 P w K mg base A outer s H) (hl : vs.length = ps.length) (r : Vals vs us)
    (x : InCallC s s.heap.objs.size (bindL (envOfC qual scope s.heap.objs.size f cd).kindOf (ps.zip us) fun _ => none) (cellsFrom (s.heap.objs.size + 1) scope.names []) (bindC (envOfC qual scope s.heap.objs.size f cd).kindOf (ps.zip us) fun _ => none) s1) :
    Inv (cxOf CX P w K mg base N qual scope f cd A outer s H E) [] (start N vs) H s1 := by
  have hpl : ps.length <= N.length := by have := congrArg List.length S.pre; rw [List.length_take] at this; omega
  refine hld fun g_ k_ => ?_; obtain ⟨h1, tk, rfl, hk⟩ := x.done; refine k_ ?_; have noA : ∀ b : Addr, b ∉ (cxOf CX P w K mg base N qual scope f cd A outer s H E).ex := fun b z => absurd (show b ∈ ([] : List Addr) from z) (by simp)
  refine ⟨⟨e0.mod, S.kind, rfl, rfl, Nat.le_refl _, fun y z c h1 h2 => ?_, fun y hy => ?_, fun y c _ h => ?_, fun _ => hd, Around.frames_deeper e0.frames, .inr ⟨rfl, rfl⟩, fun b z => absurd z (noA b), e0.bs, e0.bsz, fun b _ _ => noA b, fun b z => absurd z (noA b), e0.funs, e0.frf⟩,
    rfl, e0.bare, Un.kept hk, ⟨_, x.toInCall.ns, fun i y v h1 h2 h3 => ?_⟩, fun y c h => ⟨_, x.cell y c h⟩, e0.hok.fresh (Nat.le_refl _), fun y c h => ?_, fun p hp => absurd (show p ∈ ([] : List (Addr × Obj)) from hp) (by simp), e0.hok.kept hk, ?_⟩
  . exact name_of_addr x.apart (PySem.mem_of_lookup h1) (PySem.mem_of_lookup h2)
  . have hy : scope.names.lookup y = some .cell \/ scope.names.lookup y = some .free := hy
    rcases hy with hy | hy
    . exact cell_has hy
    . exact absurd rfl (S.nofree _ (PySem.mem_of_lookup hy))
  . exact Nat.le_of_lt (x.above y c (PySem.mem_of_lookup h))
  . have hi : i < vs.length := by
      unfold start at h2
      by_cases hi : i < vs.length
      . exact hi
      . rw [List.getElem?_append_right (by simpa using hi)] at h2
        rw [List.getElem?_replicate] at h2
        split at h2 <;> cases h2
    have ha : vs[i]? = some v := by
      unfold start at h2
      rw [List.getElem?_append_left (by simpa using hi), List.getElem?_map] at h2
      cases e : vs[i]? with
      | none => rw [e] at h2; cases h2
      | some a => rw [e] at h2; cases h2; rfl
    obtain ⟨u, hu, rv⟩ := r.get ha
    have hp : ps[i]? = some y := by
      rw [<- S.pre, List.getElem?_take_of_lt (by omega)]; exact h1
    have ndP : ps.Nodup := by rw [<- S.pre]; exact S.nd.sublist (List.take_sublist _ _)
    refine ⟨u, rv, ?_⟩
    rcases S.par y (List.mem_of_getElem? hp) with k | k
    . exact .inl ⟨k, bindL_get ndP hp hu k⟩
    . obtain ⟨c, e⟩ := cell_has (n := s.heap.objs.size + 1) k
      refine .inr ⟨.inl k, c, e, ?_⟩; have q := x.cell y c e; rw [bindC_get ndP hp hu (by show scope.names.lookup y ≠ _; rw [k]; decide)] at q
      exact q
  . exact e0.hok.fresh (Nat.le_of_lt (x.above y c (PySem.mem_of_lookup h)))
  . unfold start
    show _ = N.length
    rw [List.length_append, List.length_map, List.length_replicate]
    omega
theorem fn_of {CX : CXT} {P : Program} {w : World} {K : PySem.W.Frag} {mg : Str -> Option Value} {base : Heap} {k : Nat} {f : Addr} {name qual : Str} {params : Arguments} {body : List Stmt} {scope : Scope} {dV kV doc pm cdv ct oc : Value} {an od : Option Addr}
    {osl : Array (Option Value)} {N ps : List Str} {sp : Sp} (lk : K.lookup f = some ⟨oc, od, .func (PySem.W.fnOf name qual params body scope dV kV doc pm an cdv ct), osl⟩) (hcd : PySem.W.codeIn K cdv qual = true) (S : FnScope N ps scope)
    (len : ∀ vs H Q E, sp vs H Q E -> vs.length = ps.length)
    (hbody : ∀ (A : Around) (outer : List Env) (s : Shared) (H : Hp) (vs : List V) (Q : VK) (E : XK), Room k (A.deeper (envOfC qual scope s.heap.objs.size f cdv)) -> sp vs H Q E ->
      ∃ t, PSs (cxOf CX P w K mg base N qual scope f cdv A outer s H E) body t /\ t { nx := fun _ H' => Q .non H', rt := Q } (start N vs) H) :
    FnOk P w K mg base CX (k + 1) f (PySem.W.fnOf name qual params body scope dV kV doc pm an cdv ct) ps sp := by
  refine ⟨len, fun A outer s H args us vs Q E hr e0 hb r hsp => ?_⟩; have hl := len _ _ _ _ hsp; have KX : K.In s.heap := e0.mod.kin.keeps fun b o e => (e0.bs b o e).1; have lim : s.heap.NoLimit := e0.mod.nolimit.keeps fun b o e => (e0.bs b o e).1
  have hkind : ∀ y ∈ ps.zip us, scope.names.lookup y.1 = some .local \/ (scope.names.lookup y.1 = some .cell /\ ((cellsFrom (s.heap.objs.size + 1) scope.names []).lookup y.1).isSome = true) := fun ⟨n, v⟩ hy => by
    rcases S.par n (List.of_mem_zip hy).1 with q | q
    . exact .inl q
    . exact .inr ⟨q, PySem.W.cellsFrom_some _ _ _ (.inl q)⟩
  refine codeAny_call_function hr.depth (KX _ _ lk) rfl S.co S.gen rfl (PySem.W.codeRec_of KX hcd) (hb _ _ _ _ ?_); refine wpAny_newFunctionEnv_cells S.kind hkind fun env he s1 x => ?_; subst he; refine ⟨lim.keeps x.toInCall.keep, codeAny_func ?_⟩; obtain ⟨t, ht, hq⟩ := hbody A outer s H vs Q E (hr.deeper _) hsp; have I : Inv (cxOf CX P w K mg base N qual scope f cdv A outer s H E) [] (start N vs) H s1 := inv_start S hr.hd e0 hl r x; refine wpAny_mono (ht [] s1 (start N vs) H _ I hq) (fun fl s' hs => ?_) fun e s' hs => hs
  have fin : ∀ {σ' : St} {H' : Hp} {v : V} {u : Value}, Inv (cxOf CX P w K mg base N qual scope f cdv A outer s H E) [] σ' H' s' -> RelV v u -> Q v H' -> CE outer P w H s Q u s' :=
    fun {σ' H' v u} J rv q => ⟨v, H', J.os, J.bare, J.base, J.hok, rv, q⟩
  cases fl with
  | ret u =>
    refine hld fun g_ k_ => ?_; obtain ⟨v, σ', H', J, rv, q⟩ := hs; refine k_ ?_; exact fin J rv q
  | next =>
    refine hld fun g_ k_ => ?_; obtain ⟨σ', H', J, q⟩ := hs; refine k_ ?_; exact fin (v := V.non) (u := Value.none) J rfl q
  | brk =>
    refine hld fun g_ k_ => ?_; obtain ⟨_, _, _, q⟩ := hs; refine k_ ?_; exact False.elim q
  | cont =>
    refine hld fun g_ k_ => ?_; obtain ⟨_, _, _, q⟩ := hs; refine k_ ?_; exact False.elim q
end L2
namespace L2
open PySem PySem.Spec PyProof.Rows
section
variable {X : Cx} {x : Str} {p pos : Pos} {e : Expr} {es : List Expr} {t : TA} {id T : String} {r : List V -> Hp -> VK -> Prop}
def tCB (r : List V -> Hp -> VK -> Prop) (t : TA) : TE := fun σ H Q => t σ H fun vs H1 => r vs H1 Q
theorem pe_callB (hc : CallR X (.builtin id) r) (hg : Gl X x) (hm : X.mg x = none) (hv : bootBuiltins x = some (.builtin id)) (ha : PA X (e :: es) t) (hn : x ≠ "__name__" := by decide) (hdb : (x == ("__debug__" : Str)) = false := by decide)
    (he : starEach (e :: es) X.env = (false, eval e X.env) :: starEach es X.env := by rfl) (hpl : (backTo pos (starEach es X.env)).any (·.1) = false := by rfl) : PE X (.Call (.Name x p) (e :: es) [] pos) (tCB r t) := by
  intro pins s σ H Q I h; refine wpAny_Call_Name_kw (ld_blt I hg hm hv ?_ hn hdb); exact PyProof.Rows.callWith_builtin1 (thn (ha pos pins s σ H _ I h) fun us s1 ⟨vs, H1, I1, r1, q1⟩ => hc pins s1 σ H1 vs us Q I1 r1 q1) he hpl
theorem pe_callTy (hc : CallR X (.type T) r) (hg : Gl X x) (hm : X.mg x = none) (hv : bootBuiltins x = some (.type T)) (ha : PA X (e :: es) t) (hn : x ≠ "__name__" := by decide) (hdb : (x == ("__debug__" : Str)) = false := by decide)
    (he : starEach (e :: es) X.env = (false, eval e X.env) :: starEach es X.env := by rfl) (hpl : (backTo pos (starEach es X.env)).any (·.1) = false := by rfl) : PE X (.Call (.Name x p) (e :: es) [] pos) (tCB r t) := by
  intro pins s σ H Q I h; refine wpAny_Call_Name_kw (ld_blt I hg hm hv ?_ hn hdb); exact PyProof.Rows.callWith_type1 (thn (ha pos pins s σ H _ I h) fun us s1 ⟨vs, H1, I1, r1, q1⟩ => hc pins s1 σ H1 vs us Q I1 r1 q1) he hpl
end
end L2
namespace HT
open PySem PyProof.Rows
section
open PySem.SeqAt
open PySem.AutoSeq1 (wpAny_loadPart')
open PySem.MeetsSeq PySem.MeetsSeq2 PySem.MeetsSeq3
end
section
variable {prog : Program} {w : World} {A : Around} {E : Value -> Shared -> Prop} {s : Shared}
def sIx (n d : Nat) : Option Int -> Nat
  | none => d
  | some v => if v < 0 then (v + (n : Int)).toNat else min v.toNat n
theorem sIx_none (n d : Nat) : sIx n d none = d := rfl
theorem sIx_nat (n d k : Nat) : sIx n d (some (k : Int)) = min k n := by
  show (if (k : Int) < 0 then ((k : Int) + (n : Int)).toNat else min (k : Int).toNat n) = min k n
  rw [if_neg (by omega), Int.toNat_natCast]
end
end HT
namespace L2
open PySem PySem.Spec PyProof.Rows
abbrev TO := St -> Hp -> (Option Int -> Hp -> Prop) -> Prop
def PO (X : Cx) (e : Option Expr) (t : TO) : Prop :=
  ∀ (pins : List (Addr × Obj)) (s : Shared) (σ : St) (H : Hp) (Q : Option Int -> Hp -> Prop), Inv X pins σ H s -> t σ H Q ->
    wpAny (model X.prog X.w) X.A (evalPart e X.env) (fun u s' => ∃ o H', Inv X pins σ H' s' /\ IsPart u o /\ Q o H') X.xe s
def tNoPart : TO := fun _ H Q => Q none H
inductive isPart (x : V) (H : Hp) (Q : Option Int -> Hp -> Prop) : Prop
  | mk (i : Int) (z1_ : x = .int i) (z2_ : Q (some i) H) : isPart x H Q
def tPart (t : TE) : TO := fun σ H Q => t σ H fun x H1 => isPart x H1 Q
section
variable {X : Cx} {e : Expr} {te : TE} {lo hi : Option Expr} {tl th : TO} {pos p2 : Pos}
theorem po_none : PO X none tNoPart := by
  intro pins s σ H Q I h; rw [evalPart_none]; exact wpAny_pure ⟨none, H, I, .none, h⟩
theorem po_some (h : PE X e te) : PO X (some e) (tPart te) := by
  intro pins s σ H Q I hw; rw [evalPart_some]; refine thn (h pins s σ H _ I hw) fun u s1 ⟨x, H1, I1, r1, q1⟩ => ?_; obtain ⟨i, rfl, q⟩ := q1; obtain ⟨t, rfl⟩ := r1; exact ⟨some i, H1, I1, .int i t, q⟩
def SlR (X : Cx) (r : V -> Option Int -> Option Int -> Hp -> VK -> Prop) : Prop :=
  ∀ (pins : List (Addr × Obj)) (s : Shared) (σ : St) (H : Hp) (x : V) (v vl vu : Value) (lo hi : Option Int) (sl : Addr) (Q : VK), Inv X pins σ H s -> RelV x v -> s.heap.IsSliceOf sl vl vu .none -> IsPart vl lo -> IsPart vu hi -> r x lo hi H Q ->
    ∃ T id, typeLookup (.type T) "__getitem__" = pure (some (.builtin id)) /\ s.TypeIs v T /\ wpAny (model X.prog X.w) X.A (getItem v (.ref sl)) (EP X pins σ Q) X.xe s
def tSl (r : V -> Option Int -> Option Int -> Hp -> VK -> Prop) (te : TE) (tl th : TO) : TE := fun σ H Q => te σ H fun x H1 => tl σ H1 fun l H2 => th σ H2 fun u H3 => r x l u H3 Q
theorem pe_slice {r : V -> Option Int -> Option Int -> Hp -> VK -> Prop} (hr : SlR X r) (he : PE X e te) (hl : PO X lo tl) (hu : PO X hi th) : PE X (.Subscript e (.Slice lo hi none p2) pos) (tSl r te tl th) := by
  intro pins s σ H Q I h; refine Subscript_ (thn (he pins s σ H _ I h) fun v s1 ⟨x, H1, I1, r1, q1⟩ => ?_); refine wpAny_Slice (thn (hl pins s1 σ H1 _ I1 q1) fun vl s2 ⟨l, H2, I2, pl, q2⟩ => thn (hu pins s2 σ H2 _ I2 q2) fun vu s3 ⟨u, H3, I3, pu, q3⟩ => ?_); rw [evalPart_none]; refine wpAny_pure ?_; have I4 : Inv X pins σ H3 { s3 with heap := s3.heap.push { cls := .type "slice", data := .fields #[vl, vu, .none] } } := I3.kept (t' := s3.toks) fun b ob q => Heap.get?_push_of_some _ q
  obtain ⟨T, id, hT, ht, hg⟩ := hr pins { s3 with heap := s3.heap.push { cls := .type "slice", data := .fields #[vl, vu, .none] } } σ H3 x v vl vu l u s3.heap.objs.size Q I4 r1 (Heap.IsSliceOf.new ..) pl pu q3
  show wpAny (model X.prog X.w) X.A (subscriptTail e (.Slice lo hi none p2) v (.ref s3.heap.objs.size)) (EP X pins σ Q) X.xe { s3 with heap := s3.heap.push { cls := .type "slice", data := .fields #[vl, vu, .none] } }
  exact tail_any (ops := [.ref s3.heap.objs.size, v]) ht hT hg (by with_unfolding_all rfl)
def cutV (xs : List V) (lo hi : Option Int) : List V := (xs.drop (HT.sIx xs.length 0 lo)).take (HT.sIx xs.length xs.length hi - HT.sIx xs.length 0 lo)
theorem cutV_length (xs : List V) (lo hi : Option Int) : (cutV xs lo hi).length <= xs.length := by
  unfold cutV
  rw [List.length_take, List.length_drop]
  omega
end
end L2
namespace L2
open PySem PySem.Spec PyProof.Rows
def ixN (n : Nat) (i : Int) : Option Nat := if 0 <= i then (if i < n then some i.toNat else none) else if -(n : Int) <= i then some (i + n).toNat else none
def atI {α : Type} (xs : List α) (i : Int) : Option α := (ixN xs.length i).bind fun j => xs[j]?
theorem ixN_seq {n : Nat} {i : Int} {j : Nat} (h : ixN n i = some j) : seqIndex? i n = some j /\ j < n /\ -(n : Int) <= i /\ i < n := by
  unfold ixN at h
  by_cases h0 : 0 <= i
  . rw [if_pos h0] at h
    by_cases h1 : i < n
    . rw [if_pos h1] at h
      have e : i.toNat = j := Option.some.inj h; exact ⟨by rw [seqIndex_of h0 h1, e], by omega, by omega, h1⟩
    . rw [if_neg h1] at h; cases h
  . rw [if_neg h0] at h
    by_cases h1 : -(n : Int) <= i
    . rw [if_pos h1] at h
      have e : (i + n).toNat = j := Option.some.inj h; exact ⟨by rw [seqIndex_neg (by omega) h1, e], by omega, h1, by omega⟩
    . rw [if_neg h1] at h; cases h
theorem atI_get {α : Type} {xs : List α} {i : Int} {v : α} (h : atI xs i = some v) : ∃ j, seqIndex? i xs.length = some j /\ xs[j]? = some v /\ j < xs.length /\ -(xs.length : Int) <= i /\ i < xs.length := by
  unfold atI at h
  cases e : ixN xs.length i with
  | none => rw [e] at h; cases h
  | some j =>
    rw [e] at h; refine hld fun g_ k_ => ?_; obtain ⟨h1, h2, h3, h4⟩ := ixN_seq e; refine k_ ?_; exact ⟨j, h1, h, h2, h3, h4⟩
theorem atI_nat {α : Type} {xs : List α} {j : Nat} {v : α} (h : xs[j]? = some v) : atI xs (j : Int) = some v := by
  have hj : j < xs.length := (List.getElem?_eq_some_iff.mp h).1
  have e : ixN xs.length (j : Int) = some j := by
    unfold ixN
    rw [if_pos (by omega), if_pos (by omega)]; simp
  unfold atI; rw [e]; exact h
def PlainIx (b : Expr) : Prop := ∀ o i, subscripted b false o i = operate [o, i] (getItem o i)
def IxR (X : Cx) (r : R2) : Prop :=
  ∀ (value slice : Expr) (pins : List (Addr × Obj)) (s : Shared) (σ : St) (H : Hp) (x y : V) (v u : Value) (Q : VK), Inv X pins σ H s -> RelV x v -> RelV y u -> r x y H Q ->
    subscripted slice false v u = operate [v, u] (getItem v u) -> wpAny (model X.prog X.w) X.A (subscriptTail value slice v u) (EP X pins σ Q) X.xe s
def MtR (X : Cx) (id : String) (r : V -> List V -> Hp -> VK -> Prop) : Prop :=
  ∀ (pins : List (Addr × Obj)) (s : Shared) (σ : St) (H : Hp) (x : V) (xs : List V) (v : Value) (us : List Value) (Q : VK), Inv X pins σ H s -> RelV x v -> Vals xs us -> r x xs H Q ->
    wpAny (model X.prog X.w) X.A (call (.builtin id) (v :: us)) (EP X pins σ Q) X.xe s
section
variable {X : Cx} {a b : Expr} {ta tb : TE} {pos : Pos}
theorem pe_ix {r : R2} (hr : IxR X r) (ha : PE X a ta) (hb : PE X b tb) (hs : PlainIx b) : PE X (.Subscript a b pos) (tOp r ta tb) := by
  intro pins s σ H Q I h; exact Subscript_ (binT ha hb I h fun v u s2 x y H2 I2 rx ry q => hr a b pins s2 σ H2 x y v u Q I2 rx ry q (hs _ _))
inductive rIxL (K : PySem.W.Frag) (x : V) (y : V) (H : Hp) (Q : VK) : Prop
  | mk (p : _) (xs : _) (i : _) (v : _) (z1_ : x = .ref p) (z2_ : y = .int i) (z3_ : SqL K H p xs) (z4_ : atI xs i = some v) (z5_ : Q v H) : rIxL K x y H Q
inductive rIxT (K : PySem.W.Frag) (x : V) (y : V) (H : Hp) (Q : VK) : Prop
  | mk (p : _) (xs : _) (i : _) (v : _) (z1_ : x = .ref p) (z2_ : y = .int i) (z3_ : SqT K H p xs) (z4_ : atI xs i = some v) (z5_ : Q v H) : rIxT K x y H Q
theorem ix_list : IxR X (rIxL X.K) := by
  intro value slice pins s σ H x y v u Q I rx ry h hs; obtain ⟨p, xs, i, z, rfl, rfl, hq, he, q⟩ := h
  cases rx
  obtain ⟨t, rfl⟩ := ry; refine hld fun g_ k_ => ?_; obtain ⟨its, r, pl, hz⟩ := I.list hq; refine k_ ?_; refine hld fun g_ k_ => ?_; obtain ⟨j, h1, h2, h3, h4, h5⟩ := atI_get he; refine k_ ?_; obtain ⟨w, ew, rw'⟩ := r.get h2; have hl := r.length; have hn := line63; have fin : EP X pins σ Q w s := ⟨z, H, I, rw', q⟩
  by_cases h0 : 0 <= i
  . have hj : i.toNat = j := by
      rw [seqIndex_of h0 h5] at h1; exact Option.some.inj h1
    exact item_listR pl.isList h0 (by omega) (by rw [hj]; simpa using ew) fin hs
  . have hj : (i + (its.toArray.size : Int)).toNat = j := by
      rw [seqIndex_neg (by omega) h4] at h1
      rw [List.size_toArray, <- hl]; exact Option.some.inj h1
    exact subscriptTail_builtinR (x := w) pl.isList.typeIs slot_list_getitem.lookup
      (wpAny_getItem_list_neg (Q := fun r s' => r = w /\ EP X pins σ Q r s') pl.isList (by omega) (by rw [List.size_toArray] <;> omega) (by omega) (by rw [hj]; simpa using ew) ⟨rfl, fin⟩) hs
theorem ix_tup : IxR X (rIxT X.K) := by
  intro value slice pins s σ H x y v u Q I rx ry h hs; obtain ⟨p, xs, i, z, rfl, rfl, hq, he, q⟩ := h
  cases rx
  obtain ⟨t, rfl⟩ := ry; refine hld fun g_ k_ => ?_; obtain ⟨its, r, pl, hz⟩ := I.tuple hq; refine k_ ?_; refine hld fun g_ k_ => ?_; obtain ⟨j, h1, h2, h3, h4, h5⟩ := atI_get he; refine k_ ?_; obtain ⟨w, ew, rw'⟩ := r.get h2; have hl := r.length; have hn := line63; have fin : EP X pins σ Q w s := ⟨z, H, I, rw', q⟩
  exact subscriptTail_builtinR (x := w) pl.typeIs slot_tuple_getitem.lookup
    (getItem_tuple (j := j) (Q := fun r s' => r = w /\ EP X pins σ Q r s') pl (by omega) (by omega) (by rw [List.size_toArray, <- hl]; exact h1) (by simpa using ew) ⟨rfl, fin⟩) hs
theorem mapSeq_set (its : List Value) (n j : Nat) (u : Value) : Obj.mapSeq (·.setIfInBounds j u) { cls := .type "list", data := .seq its.toArray n } = { cls := .type "list", data := .seq (its.set j u).toArray n } := by
  simp [Obj.mapSeq]
theorem Inv.lst {pins : List (Addr × Obj)} {σ : St} {H : Hp} {s : Shared} {p : Addr} {xs : List V} (I : Inv X pins σ H s) (h : H p = some (.lst xs)) :
    ∃ (its : List Value) (n : Nat), Vals xs its /\ s.heap.get? p = some { cls := .type "list", data := .seq its.toArray n } /\ xs.length <= sizeLine := by
  refine hld fun g_ k_ => ?_; obtain ⟨z, its, n, r, e⟩ := I.hok p _ h; refine k_ ?_; exact ⟨its, n, r, e, z⟩
theorem Inv.lstUpd {pins : List (Addr × Obj)} {σ : St} {H : Hp} {s : Shared} {p : Addr} {xs ys : List V} {its its' : List Value} {n n' : Nat} {f : Obj -> Obj} (I : Inv X pins σ H s) (h : H p = some (.lst xs))
    (ho : s.heap.get? p = some { cls := .type "list", data := .seq its.toArray n }) (hf : f { cls := .type "list", data := .seq its.toArray n } = { cls := .type "list", data := .seq its'.toArray n' }) (r : Vals ys its') (hz : ys.length <= sizeLine) (t : Nat) :
    Inv X pins σ (upd H p (.lst ys)) { s with heap := s.heap.update p f, toks := t } := by
  have e : (s.heap.update p f).get? p = some { cls := .type "list", data := .seq its'.toArray n' } := by
    rw [Heap.get?_update_self f ho (by rw [hf] <;> rfl), hf]
  refine I.write (x := p) (e := p) (by rw [h]; trivial) (.inl rfl) (fun b u hb q => (Heap.get?_update_other _ _ (Ne.symm hb)).trans q) ⟨_, e⟩ ?_
  exact ⟨hz, its', n', r, e⟩
inductive rSetL (o : V) (i : V) (v : V) (H : Hp) (Q : (Hp -> Prop)) : Prop
  | mk (p : _) (xs : _) (k : _) (j : _) (z1_ : o = .ref p) (z2_ : i = .int k) (z3_ : H p = some (.lst xs)) (z4_ : ixN xs.length k = some j) (z5_ : Q (upd H p (.lst (xs.set j v)))) : rSetL o i v H Q
theorem set_list : PSet X rSetL := by
  intro pins s σ H o i v ov iv u Q I ro ri rv h; obtain ⟨p, xs, k, j, rfl, rfl, hp, hj, q⟩ := h
  cases ro
  obtain ⟨t, rfl⟩ := ri; refine hld fun g_ k_ => ?_; obtain ⟨its, n, r, ho, hz⟩ := I.lst hp; refine k_ ?_; refine hld fun g_ k_ => ?_; obtain ⟨h1, h2, h3, h4⟩ := ixN_seq hj; refine k_ ?_; have hl := r.length; have hn := line63
  have I' : Inv X pins σ (upd H p (.lst (xs.set j v))) { s with heap := s.heap.update p (Obj.mapSeq (·.setIfInBounds j u)) } :=
    I.lstUpd hp ho (mapSeq_set its n j u) (r.set rv j) (by rw [List.length_set]; exact hz) s.toks
  by_cases h0 : 0 <= k
  . have hk : k.toNat = j := by
      rw [seqIndex_of h0 h4] at h1; exact Option.some.inj h1
    exact PySem.W.ki_setAt ho h0 (by omega) (by rw [List.size_toArray, <- hl]; exact h4) (by rw [hk]; exact ⟨_, I', q⟩)
  . have hk : (k + (its.toArray.size : Int)).toNat = j := by
      rw [seqIndex_neg (by omega) h3] at h1
      rw [List.size_toArray, <- hl]; exact Option.some.inj h1
    exact PySem.W.ki_setBack ho (by omega) (by rw [List.size_toArray, <- hl]; exact h3) (by omega) (by rw [hk]; exact ⟨_, I', q⟩)
theorem slice_bounds (lo hi : Option Int) (n : Nat) : (sliceBounds lo hi none n).1 = ((HT.sIx n 0 lo : Nat) : Int) /\ (sliceBounds lo hi none n).2.1 = ((HT.sIx n n hi : Nat) : Int) /\ (sliceBounds lo hi none n).2.2 = 1 := by
  refine ⟨?_, ?_, rfl⟩
  . cases lo with
    | none => simp [sliceBounds, HT.sIx]
    | some i =>
      simp only [sliceBounds, HT.sIx, Option.getD_none, show (1 : Int) > 0 by decide, if_true]
      by_cases h : i < 0
      . simp only [h, if_true] <;> omega
      . simp only [h, if_false] <;> omega
  . cases hi with
    | none => simp [sliceBounds, HT.sIx]
    | some i =>
      simp only [sliceBounds, HT.sIx, Option.getD_none, show (1 : Int) > 0 by decide, if_true]
      by_cases h : i < 0
      . simp only [h, if_true] <;> omega
      . simp only [h, if_false] <;> omega
theorem slicePick_cut (its : List Value) (lo hi : Option Int) : slicePick its.toArray lo hi none = ((its.drop (HT.sIx its.length 0 lo)).take (HT.sIx its.length its.length hi - HT.sIx its.length 0 lo)).toArray := by
  obtain ⟨h1, h2, h3⟩ := slice_bounds lo hi its.toArray.size
  unfold slicePick
  rw [h1, h2, h3]
  simp only [sliceRange_one, pick_run, List.size_toArray] <;> rfl
inductive rSlL (K : PySem.W.Frag) (x : V) (lo : (Option Int)) (hi : (Option Int)) (H : Hp) (Q : VK) : Prop
  | mk (a : _) (xs : _) (z1_ : x = .ref a) (z2_ : SqL K H a xs) (z3_ : ∀ p, H p = none -> Q (.ref p) (upd H p (.lst (cutV xs lo hi)))) : rSlL K x lo hi H Q
theorem sl_list : SlR X (rSlL X.K) := by
  intro pins s σ H x v vl vu lo hi sl Q I rx hs pl pu h; obtain ⟨a, xs, rfl, hx, q⟩ := h
  cases rx
  refine hld fun g_ k_ => ?_; obtain ⟨its, r, ht, hz⟩ := I.list hx; refine k_ ?_; have hlen := r.length; refine ⟨"list", _, slot_list_getitem.lookup, ht.isList.typeIs, ?_⟩; refine wpAny_getItem_list_slice ht.isList hs pl pu .none (by simp) ?_ (by rw [List.size_toArray] <;> omega)
  rw [slicePick_cut, <- hlen]; refine ⟨.ref s.heap.objs.size, _, I.laid (t' := s.toks) (o := .lst (cutV xs lo hi)) (fun b ob q => Heap.get?_push_of_some _ q) (Nat.le_refl _) ?_, rfl, q _ (I.hok.fresh (Nat.le_refl _))⟩; exact ⟨Nat.le_trans (cutV_length xs lo hi) hz, _, 0, (r.drop (HT.sIx xs.length 0 lo)).take (HT.sIx xs.length xs.length hi - HT.sIx xs.length 0 lo), Heap.get?_push_size _ rfl⟩
def flatV : V -> Bool
  | .non => true
  | .bl _ => true
  | .int _ => true
  | .str _ => true
  | _ => false
def eqV : V -> V -> Bool
  | .non, .non => true
  | .bl a, .bl b => a == b
  | .bl a, .int b => (if a then 1 else 0) == b
  | .int a, .bl b => a == (if b then 1 else 0)
  | .int a, .int b => a == b
  | .str a, .str b => a == b
  | _, _ => false
theorem eqAt_V {A : Around} {s : Shared} {y x : V} {u v : Value} (ry : RelV y u) (rx : RelV x v) (fy : flatV y = true) (fx : flatV x = true) : SeqAt.EqAt A s u v (eqV y x) := by
  cases y with
  | non =>
    cases ry
    cases x with
    | non => cases rx; exact SeqAt.EqAt.same _
    | bl b => cases rx; exact SeqAt.EqAt.none_bool b
    | int b => obtain ⟨t, rfl⟩ := rx; exact SeqAt.EqAt.none_int b t
    | str b => obtain ⟨t, rfl⟩ := rx; exact SeqAt.EqAt.none_str b t
    | _ => exact absurd (show false = true from fx) Bool.false_ne_true
  | bl a =>
    cases ry
    cases x with
    | non => cases rx; exact SeqAt.EqAt.bool_none a
    | bl b => cases rx; exact SeqAt.EqAt.bool_bool a b
    | int b => obtain ⟨t, rfl⟩ := rx; exact SeqAt.EqAt.bool_int a b t
    | str b => obtain ⟨t, rfl⟩ := rx; exact SeqAt.EqAt.bool_str a b t
    | _ => exact absurd (show false = true from fx) Bool.false_ne_true
  | int a =>
    obtain ⟨t', rfl⟩ := ry
    cases x with
    | non => cases rx; exact SeqAt.EqAt.int_none a t'
    | bl b => cases rx; exact SeqAt.EqAt.int_bool a t' b
    | int b => obtain ⟨t, rfl⟩ := rx; exact SeqAt.EqAt.int_int a t' b t
    | str b => obtain ⟨t, rfl⟩ := rx; exact SeqAt.EqAt.int_str a t' b t
    | _ => exact absurd (show false = true from fx) Bool.false_ne_true
  | str a =>
    obtain ⟨t', rfl⟩ := ry
    cases x with
    | non => cases rx; exact SeqAt.EqAt.str_none a t'
    | bl b => cases rx; exact SeqAt.EqAt.str_bool a t' b
    | int b => obtain ⟨t, rfl⟩ := rx; exact SeqAt.EqAt.str_int a t' b t
    | str b => obtain ⟨t, rfl⟩ := rx; exact SeqAt.EqAt.str_str a t' b t
    | _ => exact absurd (show false = true from fx) Bool.false_ne_true
  | _ => exact absurd (show false = true from fy) Bool.false_ne_true
def eqU (x : V) (u : Value) : Bool := match u with
  | .none => eqV .non x
  | .bool b => eqV (.bl b) x
  | .int i _ => eqV (.int i) x
  | .str z _ => eqV (.str z) x
  | _ => false
theorem eqU_of {x y : V} {u : Value} (r : RelV y u) (f : flatV y = true) : eqU x u = eqV y x := by
  cases y with
  | non => cases r; rfl
  | bl b => cases r; rfl
  | int i => obtain ⟨t, rfl⟩ := r; rfl
  | str z => obtain ⟨t, rfl⟩ := r; rfl
  | _ => exact absurd (show false = true from f) Bool.false_ne_true
theorem any_eqU {x : V} : ∀ {xs : List V} {us : List Value}, Vals xs us -> xs.all flatV = true -> us.any (eqU x) = xs.any fun y => eqV y x
  | _, _, .nil, _ => rfl
  | y :: xs, u :: us, .cons r t, f => by
    rw [List.all_cons, Bool.and_eq_true] at f; rw [List.any_cons, List.any_cons, eqU_of r f.1, any_eqU t f.2]
theorem mem_eqAt {A : Around} {s : Shared} {x : V} {v : Value} (rx : RelV x v) (fx : flatV x = true) : ∀ {xs : List V} {us : List Value}, Vals xs us -> xs.all flatV = true -> ∀ u ∈ us, SeqAt.EqAt A s u v (eqU x u)
  | _, _, .nil, _ => fun u hu => by cases hu
  | y :: xs, u :: us, .cons r t, f => fun u' hu => by
    rw [List.all_cons, Bool.and_eq_true] at f
    rcases List.mem_cons.mp hu with rfl | hu
    . rw [eqU_of r f.1]; exact eqAt_V r rx f.1 fx
    . exact mem_eqAt rx fx t f.2 u' hu
def inV (x : V) (xs : List V) : Bool := xs.any fun y => eqV y x
inductive rIn (K : PySem.W.Frag) (neg : Bool) (x : V) (y : V) (H : Hp) (Q : VK) : Prop
  | mk (p : _) (xs : _) (z1_ : y = .ref p) (z2_ : (SqL K H p xs \/ SqT K H p xs)) (z3_ : flatV x = true) (z4_ : xs.all flatV = true) (z5_ : Q (.bl (if neg then !inV x xs else inV x xs)) H) : rIn K neg x y H Q
theorem op_in_seq : OpR X (compareOp .In) (rIn X.K false) := by
  intro pins s σ H x y v u Q I rx ry h; obtain ⟨p, xs, rfl, hq, fx, fs, q⟩ := h
  cases ry
  rcases hq with hq | hq
  . obtain ⟨its, r, pl, hz⟩ := I.list hq
    refine SeqAt.in_listAt (eqU x) pl.isList (fun w hw => mem_eqAt rx fx r fs w (by simpa using hw)) ⟨.bl _, H, I, rfl, ?_⟩
    rw [show its.toArray.any (eqU x) = its.any (eqU x) by simp, any_eqU r fs]
    exact q
  . obtain ⟨its, r, pl, hz⟩ := I.tuple hq
    refine SeqAt.in_tupleAt (eqU x) pl (fun w hw => mem_eqAt rx fx r fs w (by simpa using hw)) ⟨.bl _, H, I, rfl, ?_⟩
    rw [show its.toArray.any (eqU x) = its.any (eqU x) by simp, any_eqU r fs]
    exact q
inductive rLen (K : PySem.W.Frag) (xs : List V) (H : Hp) (Q : VK) : Prop
  | mk (p : Addr) (ys : List V) (z1_ : xs = [.ref p]) (z2_ : SqL K H p ys \/ SqT K H p ys) (z3_ : Q (.int ys.length) H) : rLen K xs H Q
theorem call_len_seq : CallR X (.builtin "len") (rLen X.K) := by
  intro pins s σ H xs us Q I r h; obtain ⟨p, ys, rfl, hq, q⟩ := h; obtain ⟨u, rfl, rx⟩ := vals1 r
  cases rx
  have hn := line63
  rcases hq with hq | hq
  . obtain ⟨its, r', pl, hz⟩ := I.list hq
    have hlen := r'.length; exact Calls.call_len_list pl.isList (by simp only [List.size_toArray] <;> omega) ⟨.int ys.length, H, I.tok _, ⟨s.toks + 1, by rw [List.size_toArray, hlen]⟩, q⟩
  . obtain ⟨its, r', pl, hz⟩ := I.tuple hq
    have hlen := r'.length; exact len_tuple pl (by simp only [List.size_toArray] <;> omega) ⟨.int ys.length, H, I.tok _, ⟨s.toks + 1, by rw [List.size_toArray, hlen]⟩, q⟩
inductive rListOf (K : PySem.W.Frag) (xs : List V) (H : Hp) (Q : VK) : Prop
  | mk (p : Addr) (ys : List V) (z1_ : xs = [.ref p]) (z2_ : SqL K H p ys \/ SqT K H p ys) (z3_ : ∀ l, H l = none -> Q (.ref l) (upd H l (.lst ys))) : rListOf K xs H Q
theorem call_list_of : CallR X (.type "list") (rListOf X.K) := by
  intro pins s σ H xs us Q I r h; obtain ⟨p, ys, rfl, hq, q⟩ := h; obtain ⟨u, rfl, rx⟩ := vals1 r
  cases rx
  have fin : ∀ (its : List Value), Vals ys its -> ys.length <= sizeLine -> ∀ (h' : Heap) (c' : Nat), (∀ b o', s.heap.get? b = some o' -> h'.get? b = some o') ->
      h'.get? s.heap.objs.size = some { cls := .type "list", dict := none, data := .seq its.toArray c', slots := #[] } -> EP X pins σ Q (.ref s.heap.objs.size) { s with heap := h' } := fun its r' hz h' c' kp e =>
    ⟨.ref s.heap.objs.size, _, I.laid (t' := s.toks) kp (Nat.le_refl _) (show ObjOk X.prog X.w _ h' _ (.lst ys) from ⟨hz, its, c', r', e⟩), rfl, q _ (I.hok.fresh (Nat.le_refl _))⟩
  rcases hq with hq | hq
  . obtain ⟨its, r', pl, hz⟩ := I.list hq
    have hlen := r'.length; refine hld fun g_ k_ => ?_; obtain ⟨o, ho, hc, n, hd⟩ := pl.isList; refine k_ ?_; exact call_list_seq p (.inl rfl) ho hc hd (fun h' c' kp e => fin its r' hz h' c' kp e) (by simp only [List.size_toArray] <;> omega)
  . obtain ⟨its, r', pl, hz⟩ := I.tuple hq
    have hlen := r'.length; refine hld fun g_ k_ => ?_; obtain ⟨o, ho, hc, n, hd⟩ := pl; refine k_ ?_; exact call_list_seq p (.inr rfl) ho hc hd (fun h' c' kp e => fin its r' hz h' c' kp e) (by simp only [List.size_toArray] <;> omega)
def tyV (K : PySem.W.Frag) (T : String) (x : V) (H : Hp) : Prop := match x with
  | .str _ => T = "str"
  | .int _ => T = "int"
  | .ref p => (T = "list" /\ ∃ xs, SqL K H p xs) \/ (T = "tuple" /\ ∃ o, K.lookup p = some o /\ o.cls = .type "tuple" /\ o.dict = none) \/
      (T = "dict" /\ ((∃ kvs, H p = some (.dK kvs)) \/ ∃ kvs, H p = some (.dT kvs))) \/ (T = "set" /\ ∃ S n, H p = some (.set S n))
  | _ => False
theorem tyV_is {pins : List (Addr × Obj)} {σ : St} {H : Hp} {s : Shared} {T : String} {x : V} {v : Value} (I : Inv X pins σ H s) (r : RelV x v) (ty : tyV X.K T x H) :
    s.TypeIs v T /\ ∀ a, v = .ref a -> ∃ ob, s.heap.get? a = some ob /\ ob.dict = none := by
  cases x with
  | str z =>
    obtain ⟨t, rfl⟩ := r
    cases (show T = "str" from ty)
    exact ⟨typeIs_str s z t, fun _ e => nomatch e⟩
  | int i =>
    obtain ⟨t, rfl⟩ := r
    cases (show T = "int" from ty)
    exact ⟨typeIs_int s i t, fun _ e => nomatch e⟩
  | ref p =>
    cases r
    rcases ty with ⟨rfl, xs, hq⟩ | ⟨rfl, o, hk, hc, hd⟩ | ⟨rfl, hk⟩ | ⟨rfl, S, n, hk⟩
    . obtain ⟨its, _, pl, _⟩ := I.list hq
      refine ⟨pl.isList.typeIs, fun a e => ?_⟩
      cases e
      refine hld fun g_ k_ => ?_; obtain ⟨o, n, e, c, hd, _⟩ := pl; refine k_ ?_; exact ⟨o, e, hd⟩
    . refine ⟨⟨o, I.kIn p o hk, hc⟩, fun a e => ?_⟩
      cases e
      exact ⟨o, I.kIn _ o hk, hd⟩
    . have z : ∃ o, s.heap.get? p = some o /\ o.ExactDict := by
        rcases hk with ⟨kvs, hk⟩ | ⟨kvs, hk⟩
        . obtain ⟨_, _, _, _, o, _, _, e, ex, _⟩ := I.hok p _ hk
          exact ⟨o, e, ex⟩
        . obtain ⟨_, _, _, _, o, _, _, e, ex, _⟩ := I.hok p _ hk
          exact ⟨o, e, ex⟩
      obtain ⟨o, e, ex⟩ := z; refine ⟨⟨o, e, ex.1⟩, fun a e2 => ?_⟩
      cases e2
      exact ⟨o, e, ex.2.1⟩
    . obtain ⟨o, _, _, _, e, ex, _⟩ := I.hok p _ hk
      refine ⟨⟨o, e, ex.1⟩, fun a e2 => ?_⟩
      cases e2
      exact ⟨o, e, ex.2.1⟩
  | _ => exact False.elim ty
inductive isTy (K : PySem.W.Frag) (T : String) (x : V) (H : Hp) (q : Prop) : Prop
  | mk (z1_ : tyV K T x H) (z2_ : q) : isTy K T x H q
def tBM0 (K : PySem.W.Frag) (T : String) (r : V -> List V -> Hp -> VK -> Prop) (to : TE) : TE := fun σ H Q => to σ H fun x H1 => isTy K T x H1 (r x [] H1 Q)
def tBM (K : PySem.W.Frag) (T : String) (r : V -> List V -> Hp -> VK -> Prop) (to : TE) (t : TA) : TE := fun σ H Q => to σ H fun x H1 => isTy K T x H1 (t σ H1 fun xs H2 => r x xs H2 Q)
variable {o e : Expr} {es : List Expr} {to : TE} {t : TA} {name : Str} {apos cpos : Pos} {T id : String} {r : V -> List V -> Hp -> VK -> Prop}
theorem pe_bm0 (pa : PlainAttrs T) (slot : Slot T name id) (hty : typeOf (.builtin id) = pure (.type "method_descriptor")) (hm : MtR X id r) (ho : PE X o to)
    (hbase : attributeBase o name X.env (eval o X.env) = eval o X.env := by rfl) (hline : (apos.endLine == cpos.line) = true := by rfl) : PE X (.Call (.Attribute o name apos) [] [] cpos) (tBM0 X.K T r to) := by
  intro pins s σ H Q I h; refine wpAny_Call_method0_late hbase hline (thn (ho pins s σ H _ I h) fun v s1 ⟨x, H1, I1, r1, ty, q1⟩ => ?_); obtain ⟨h1, h2⟩ := tyV_is I1 r1 ty; exact ⟨T, id, pa, slot, hty, h1, h2, Calls.callWith_builtin rfl (PySem.evalArgs_none (hm pins s1 σ H1 x [] v [] Q I1 r1 .nil q1))⟩
theorem pe_bm (pa : PlainAttrs T) (slot : Slot T name id) (hty : typeOf (.builtin id) = pure (.type "method_descriptor")) (hm : MtR X id r) (ho : PE X o to) (ha : PA X (e :: es) t)
    (hbase : attributeBase o name X.env (eval o X.env) = eval o X.env := by rfl)
    (hfew : ((backTo cpos (starEach (e :: es) X.env)).all (fun x => !x.1) && (backToKw cpos (keywordEach [] X.env)).all (fun x => x.1.isSome)
      && decide ((e :: es).length + ([] : List Keyword).length + (if ([] : List Keyword).isEmpty then 0 else 1) < 30)) = true := by rfl)
    (hline : (apos.endLine == cpos.line) = true := by rfl) (hs : starEach (e :: es) X.env = (false, eval e X.env) :: starEach es X.env := by rfl) (hplain : (backTo cpos (starEach es X.env)).any (·.1) = false := by rfl) :
    PE X (.Call (.Attribute o name apos) (e :: es) [] cpos) (tBM X.K T r to t) := by
  intro pins s σ H Q I h; refine wpAny_Call_method_late hbase hfew hline rfl (thn (ho pins s σ H _ I h) fun v s1 ⟨x, H1, I1, r1, ty, q1⟩ => ?_); obtain ⟨h1, h2⟩ := tyV_is I1 r1 ty; refine ⟨T, id, pa, slot, hty, h1, h2, ?_⟩; have hA := ha cpos pins s1 σ H1 _ I1 q1; rw [hs] at hA ⊢; refine Calls.callWith_builtin (by show (false || (backTo cpos (starEach es X.env)).any (·.1)) = false; rw [hplain] <;> rfl) (Calls.evalArgs_plain ?_)
  exact thn hA fun us s2 ⟨vs, H2, I2, r2, q2⟩ => hm pins s2 σ H2 x vs v us Q I2 r1 r2 q2
end
end L2
namespace L2
open PySem PySem.Spec PyProof.Rows
def MtM (X : Cx) (id : String) (r : V -> List V -> Hp -> VK -> Prop) : Prop :=
  ∀ (pins : List (Addr × Obj)) (s : Shared) (σ : St) (H : Hp) (x : V) (xs : List V) (v : Value) (us : List Value) (Q : VK), Inv X pins σ H s -> RelV x v -> Vals xs us -> r x xs H Q ->
    wpAny (model X.prog X.w) X.A (call (.builtin id) (v :: us)) (EP X pins σ Q) X.xe s
theorem Vals.one {x : V} {us : List Value} (h : Vals [x] us) : ∃ u, us = [u] /\ RelV x u := by
  cases h with
  | cons r t => cases t; exact ⟨_, rfl, r⟩
theorem Vals.two {x y : V} {us : List Value} (h : Vals [x, y] us) : ∃ u v, us = [u, v] /\ RelV x u /\ RelV y v := by
  cases h with
  | cons r t =>
    obtain ⟨v, rfl, q⟩ := Vals.one t; exact ⟨_, v, rfl, r, q⟩
theorem Vals.zero : ∀ {us : List Value}, Vals [] us -> us = []
  | _, .nil => rfl
theorem Vals.dropLast {xs : List V} {us : List Value} (h : Vals xs us) : Vals xs.dropLast us.dropLast := by
  induction h with
  | nil => exact .nil
  | cons r t ih =>
    cases t with
    | nil => exact .nil
    | cons q t' => exact .cons r ih
theorem Vals.eraseIdx : ∀ {xs : List V} {us : List Value} (i : Nat), Vals xs us -> Vals (xs.eraseIdx i) (us.eraseIdx i)
  | _, _, _, .nil => .nil
  | _, _, 0, .cons _ t => t
  | _, _, i + 1, .cons r t => .cons r (Vals.eraseIdx i t)
theorem Vals.rep {xs : List V} {us : List Value} (h : Vals xs us) : ∀ k : Nat, Vals (List.replicate k xs).flatten (List.replicate k us).flatten
  | 0 => .nil
  | k + 1 => by
    rw [List.replicate_succ, List.replicate_succ, List.flatten_cons, List.flatten_cons]; exact Vals.append h (Vals.rep h k)
theorem erase_last {α : Type} (l : List α) : l.eraseIdx (l.length - 1) = l.dropLast := by
  induction l with
  | nil => rfl
  | cons a r ih =>
    cases r with
    | nil => rfl
    | cons b r =>
      have e : (a :: b :: r).length - 1 = ((b :: r).length - 1) + 1 := by
        have h1 : (a :: b :: r).length = r.length + 2 := rfl; have h2 : (b :: r).length = r.length + 1 := rfl
        omega
      rw [e, List.eraseIdx_cons_succ, ih]
      all_goals rfl
theorem len_erase {α : Type} : ∀ (l : List α) (i : Nat), (l.eraseIdx i).length <= l.length
  | [], _ => Nat.le_refl _
  | _ :: _, 0 => Nat.le_succ _
  | _ :: r, i + 1 => Nat.succ_le_succ (len_erase r i)
theorem foldl_rep (its : List Value) : ∀ (k : Nat) (acc : List Value),
    List.foldl (fun x1 x2 => x1 ++ x2) acc.toArray (List.replicate k its.toArray) = (acc ++ (List.replicate k its).flatten).toArray
  | 0, acc => by simp
  | k + 1, acc => by
    have e : acc.toArray ++ its.toArray = (acc ++ its).toArray := by simp
    have e2 : (acc ++ its) ++ (List.replicate k its).flatten = acc ++ (List.replicate (k + 1) its).flatten := by
      rw [List.replicate_succ, List.flatten_cons, List.append_assoc]
    rw [<- e2, <- foldl_rep its k (acc ++ its), <- e, List.replicate_succ, List.foldl_cons]
section
variable {X : Cx} {pins : List (Addr × Obj)} {σ : St} {H : Hp} {s : Shared} {l b : Addr} {xs ys zs : List V}
theorem Inv.lset {its its' : List Value} {n : Nat} {f : Array Value -> Array Value} {t' : Nat} (I : Inv X pins σ H s) (hH : H l = some (.lst xs))
    (e : s.heap.get? l = some { cls := .type "list", data := .seq its.toArray n }) (hf : f its.toArray = its'.toArray) (hv : Vals ys its') (hz : ys.length <= sizeLine) :
    Inv X pins σ (upd H l (.lst ys)) { s with heap := s.heap.update l (Obj.mapSeq f), toks := t' } := by
  have q := PySem.IsL.update e f; rw [hf] at q; refine I.write (x := l) (e := l) (by rw [hH]; exact trivial) (.inl rfl) (fun b' u hb hu => (Heap.get?_update_other s.heap (Obj.mapSeq f) (Ne.symm hb)).trans hu) ⟨_, q⟩ ?_
  exact ⟨hz, its', _, hv, q⟩
theorem Inv.lnew {its : List Value} {t' : Nat} (I : Inv X pins σ H s) (hv : Vals ys its) (hz : ys.length <= sizeLine) :
    Inv X pins σ (upd H s.heap.objs.size (.lst ys)) { s with heap := s.heap.push { cls := .type "list", data := .seq its.toArray }, toks := t' } :=
  I.laid (fun _ _ q => Heap.get?_push_of_some _ q) (Nat.le_refl _) ⟨hz, its, 0, hv, Heap.get?_push_size _ rfl⟩
theorem Inv.fresh (I : Inv X pins σ H s) : H s.heap.objs.size = none := I.hok.fresh (Nat.le_refl _)
theorem Inv.lstM (I : Inv X pins σ H s) (hH : H l = some (.lst xs)) : xs.length <= sizeLine /\ ∃ (its : List Value) (n : Nat), Vals xs its /\ xs.length = its.length /\ s.heap.get? l = some { cls := .type "list", data := .seq its.toArray n } := by
  refine hld fun g_ k_ => ?_; obtain ⟨z, its, n, r, e⟩ := I.hok l _ hH; refine k_ ?_; exact ⟨z, its, n, r, r.length, e⟩
theorem notLongL {n : Nat} (h : n <= sizeLine) : Builtin.List.listTooLong n = false := by
  unfold Builtin.List.listTooLong
  exact decide_eq_false (by omega)
end
section
variable {X : Cx}
inductive rAppend (x : V) (vs : (List V)) (H : Hp) (Q : VK) : Prop
  | mk (l : _) (xs : _) (y : _) (z1_ : x = .ref l) (z2_ : vs = [y]) (z3_ : H l = some (.lst xs)) (z4_ : xs.length < sizeLine) (z5_ : Q .non (upd H l (.lst (xs ++ [y])))) : rAppend x vs H Q
theorem mt_append : MtM X "list.append" rAppend := by
  intro pins s σ H x vs v us Q I rx rv h; obtain ⟨l, xs, y, rfl, rfl, hH, hz, q⟩ := h
  cases rx
  obtain ⟨u, rfl, ru⟩ := rv.one; refine hld fun g_ k_ => ?_; obtain ⟨z, its, n, r, hl, e⟩ := I.lstM hH; refine k_ ?_; refine call_meets F.slot_list_append ⟨_, e, rfl⟩ F.entry_list_append (F.args_list_append_2 _ _) (PySem.list_append l its.toArray n u (by rw [List.size_toArray]; omega)) ⟨e, ?_⟩
  refine ⟨.non, _, I.lset (its' := its ++ [u]) hH e (by simp) (r.append (.cons ru .nil)) ?_, rfl, q⟩
  rw [List.length_append, List.length_singleton]
  omega
inductive rExtend (x : V) (vs : (List V)) (H : Hp) (Q : VK) : Prop
  | mk (l : _) (b : _) (xs : _) (zs : _) (z1_ : x = .ref l) (z2_ : vs = [.ref b]) (z3_ : H l = some (.lst xs)) (z4_ : H b = some (.lst zs)) (z5_ : xs.length + zs.length <= sizeLine) (z6_ : Q .non (upd H l (.lst (xs ++ zs)))) : rExtend x vs H Q
theorem mt_extend : MtM X "list.extend" rExtend := by
  intro pins s σ H x vs v us Q I rx rv h; obtain ⟨l, b, xs, zs, rfl, rfl, hH, hB, hz, q⟩ := h
  cases rx
  obtain ⟨u, rfl, ru⟩ := rv.one
  cases ru
  refine hld fun g_ k_ => ?_; obtain ⟨z, its, n, r, hl, e⟩ := I.lstM hH; refine k_ ?_; refine hld fun g_ k_ => ?_; obtain ⟨z2, its2, n2, r2, hl2, e2⟩ := I.lstM hB; refine k_ ?_; have hsz : its.toArray.size + its2.toArray.size <= sizeLine := by rw [List.size_toArray, List.size_toArray]; omega
  have hlong : ¬ (!its.toArray.isEmpty && Builtin.List.listTooLong (its.toArray.size + its2.toArray.size)) = true := by
    rw [notLongL hsz, Bool.and_false]; exact Bool.false_ne_true
  refine call_meets F.slot_list_extend ⟨_, e, rfl⟩ F.entry_list_extend (F.args_list_extend_2 _ _)
    (AutoSeq1.list_extend_list_list_0 l its.toArray n b its2.toArray n2 hlong (by rw [List.size_toArray]; omega) (by omega)) ⟨e, e2, ?_⟩
  refine ⟨.non, _, I.lset (its' := its ++ its2) hH e (by simp) (r.append r2) ?_, rfl, q⟩
  rw [List.length_append]
  omega
inductive rPop (x : V) (vs : (List V)) (H : Hp) (Q : VK) : Prop
  | mk (l : _) (xs : _) (y : _) (z1_ : x = .ref l) (z2_ : vs = []) (z3_ : H l = some (.lst xs)) (z4_ : xs[xs.length - 1]? = some y) (z5_ : Q y (upd H l (.lst xs.dropLast))) : rPop x vs H Q
theorem mt_pop : MtM X "list.pop" rPop := by
  intro pins s σ H x vs v us Q I rx rv h; obtain ⟨l, xs, y, rfl, rfl, hH, hy, q⟩ := h
  cases rx
  have hus := rv.zero; subst hus; refine hld fun g_ k_ => ?_; obtain ⟨z, its, n, r, hl, e⟩ := I.lstM hH; refine k_ ?_; obtain ⟨u, hu, ru⟩ := r.get hy
  have hy' : its.toArray[its.toArray.size - 1]? = some u := by
    show its.toArray[its.length - 1]? = some u
    rw [<- Array.getElem?_toList, <- hl]; exact hu
  refine call_meets F.slot_list_pop ⟨_, e, rfl⟩ F.entry_list_pop (F.args_list_pop_1 _) (MeetsSeq.list_pop_last l its.toArray n u hy' (by rw [List.size_toArray]; omega)) ⟨e, ?_⟩
  refine ⟨y, _, I.lset (its' := its.dropLast) hH e ?_ r.dropLast ?_, ru, q⟩
  . show its.toArray.eraseIdxIfInBounds (its.toArray.size - 1) = its.dropLast.toArray
    rw [List.size_toArray, List.eraseIdxIfInBounds_toArray, erase_last]
  . rw [List.length_dropLast]
    omega
inductive rPopAt (x : V) (vs : (List V)) (H : Hp) (Q : VK) : Prop
  | mk (l : _) (xs : _) (i : _) (k : _) (y : _) (z1_ : x = .ref l) (z2_ : vs = [.int i]) (z3_ : H l = some (.lst xs)) (z4_ : -(2 ^ 63) <= i) (z5_ : i < 2 ^ 63) (z6_ : seqIndex? i xs.length = some k) (z7_ : xs[k]? = some y) (z8_ : Q y (upd H l (.lst (xs.eraseIdx k)))) : rPopAt x vs H Q
theorem mt_popAt : MtM X "list.pop" rPopAt := by
  intro pins s σ H x vs v us Q I rx rv h; obtain ⟨l, xs, i, k, y, rfl, rfl, hH, h1, h2, hk, hy, q⟩ := h
  cases rx
  obtain ⟨u, rfl, ru⟩ := rv.one; obtain ⟨t, rfl⟩ := ru; refine hld fun g_ k_ => ?_; obtain ⟨z, its, n, r, hl, e⟩ := I.lstM hH; refine k_ ?_; obtain ⟨w, hw, rw'⟩ := r.get hy
  refine call_meets F.slot_list_pop ⟨_, e, rfl⟩ F.entry_list_pop (F.args_list_pop_2 _ _)
    (MeetsSeq.list_pop_at l its.toArray n i t k w (fitsIndex_both h1 h2) (by rw [List.size_toArray, <- hl]; exact hk) (by rw [<- Array.getElem?_toList]; exact hw) (by rw [List.size_toArray]; omega)) ⟨e, ?_⟩
  refine ⟨y, _, I.lset (its' := its.eraseIdx k) hH e ?_ (r.eraseIdx k) ?_, rw', q⟩
  . show its.toArray.eraseIdxIfInBounds k = (its.eraseIdx k).toArray
    rw [List.eraseIdxIfInBounds_toArray]
  . have := len_erase xs k
    omega
inductive rClear (x : V) (vs : (List V)) (H : Hp) (Q : VK) : Prop
  | mk (l : _) (xs : _) (z1_ : x = .ref l) (z2_ : vs = []) (z3_ : H l = some (.lst xs)) (z4_ : Q .non (upd H l (.lst []))) : rClear x vs H Q
theorem mt_clear : MtM X "list.clear" rClear := by
  intro pins s σ H x vs v us Q I rx rv h; obtain ⟨l, xs, rfl, rfl, hH, q⟩ := h
  cases rx
  have hus := rv.zero; subst hus; refine hld fun g_ k_ => ?_; obtain ⟨z, its, n, r, hl, e⟩ := I.lstM hH; refine k_ ?_; refine call_meets F.slot_list_clear ⟨_, e, rfl⟩ F.entry_list_clear (F.args_list_clear_1 _) (AutoSeq1.list_clear_list_0 l its.toArray n (by rw [List.size_toArray]; omega)) ⟨e, ?_⟩
  exact ⟨.non, _, I.lset (its' := []) (ys := []) hH e rfl .nil (Nat.zero_le _), rfl, q⟩
inductive rCat (x : V) (y : V) (H : Hp) (Q : VK) : Prop
  | mk (l : _) (b : _) (xs : _) (zs : _) (z1_ : x = .ref l) (z2_ : y = .ref b) (z3_ : H l = some (.lst xs)) (z4_ : H b = some (.lst zs)) (z5_ : xs.length + zs.length <= sizeLine) (z6_ : ∀ p, H p = none -> Q (.ref p) (upd H p (.lst (xs ++ zs)))) : rCat x y H Q
theorem op_cat : OpR X (binaryOp .Add) rCat := by
  intro pins s σ H x y v u Q I rx ry h; obtain ⟨l, b, xs, zs, rfl, rfl, hH, hB, hz, q⟩ := h
  cases rx
  cases ry
  refine hld fun g_ k_ => ?_; obtain ⟨z, its, n, r, hl, e⟩ := I.lstM hH; refine k_ ?_; refine hld fun g_ k_ => ?_; obtain ⟨z2, its2, n2, r2, hl2, e2⟩ := I.lstM hB; refine k_ ?_; refine PySem.P.add_list e e2 ?_ (by rw [List.size_toArray, List.size_toArray]; omega)
  have ea : its.toArray ++ its2.toArray = (its ++ its2).toArray := by simp
  rw [ea]; exact ⟨.ref _, _, I.lnew (t' := s.toks) (r.append r2) (by rw [List.length_append]; omega), rfl, q _ I.fresh⟩
inductive rRep (x : V) (y : V) (H : Hp) (Q : VK) : Prop
  | mk (l : _) (k : _) (xs : _) (z1_ : x = .ref l) (z2_ : y = .int k) (z3_ : H l = some (.lst xs)) (z4_ : -(2 ^ 63) <= k) (z5_ : k < 2 ^ 63) (z6_ : xs.length * k.toNat <= sizeLine) (z7_ : ∀ p, H p = none -> Q (.ref p) (upd H p (.lst (List.replicate k.toNat xs).flatten))) : rRep x y H Q
theorem len_rep {α : Type} (xs : List α) (k : Nat) : (List.replicate k xs).flatten.length = k * xs.length := by
  induction k with
  | zero => simp
  | succ k ih => rw [List.replicate_succ, List.flatten_cons, List.length_append, ih, Nat.succ_mul, Nat.add_comm]
theorem op_rep : OpR X (binaryOp .Mult) rRep := by
  intro pins s σ H x y v u Q I rx ry h; obtain ⟨l, k, xs, rfl, rfl, hH, h1, h2, hz, q⟩ := h
  cases rx
  obtain ⟨t, rfl⟩ := ry; refine hld fun g_ k_ => ?_; obtain ⟨z, its, n, r, hl, e⟩ := I.lstM hH; refine k_ ?_; have hlen : its.toArray.size * k.toNat <= sizeLine := by rw [List.size_toArray, <- hl]; exact hz
  have hcap : ¬ its.toArray.size * k.toNat > (2 ^ 63 - 1) / 8 := by
    have : (sizeLine : Nat) <= (2 ^ 63 - 1) / 8 := by decide
    omega
  have hfit : ¬ (!Builtin.List.listFitsIndex k) = true := by
    rw [fitsIndex_both h1 h2]; exact Bool.false_ne_true
  have hlong : ¬ Builtin.List.listTooLong (its.toArray.size * k.toNat) = true := by
    rw [notLongL hlen]; exact Bool.false_ne_true
  have hnew : List.foldl (fun x1 x2 => x1 ++ x2) #[] (List.replicate (if its.toArray.isEmpty = true then 0 else k.toNat) its.toArray) = (List.replicate k.toNat its).flatten.toArray := by
    have f0 : ∀ m : Nat, List.foldl (fun x1 x2 => x1 ++ x2) #[] (List.replicate m its.toArray) = (List.replicate m its).flatten.toArray := fun m => by
      have := foldl_rep its m []; rw [List.nil_append] at this; exact this
    rw [f0]
    cases its with
    | nil => simp
    | cons a r' => rw [if_neg (by simp)]
  refine wpAny_binaryOp_repeat_ref (T := "list") (U := "int") (by decide) ⟨_, e, rfl⟩ (fun s' => typeIs_int s' k t) noFill_list_mul F.fills_int_mul F.slot_int_rmul repeat_list F.slot_int_index.lookup
    (call_meets F.slot_int_rmul (typeIs_int s k t) F.entry_int_rmul (F.args_int_rmul_2 _ _) (int___rmul___int_list k t l its.toArray n)
      ⟨e, rfl, ⟨_, e, rfl⟩, call_meets F.slot_list_mul ⟨_, e, rfl⟩ F.entry_list_mul (F.args_list_mul_2 _ _) (AutoListH.list___mul___list_int_3 l its.toArray n k t hfit hcap hlong) ⟨e, ?_⟩⟩)
  rw [hnew]; exact ⟨.ref _, _, I.lnew (t' := s.toks) (r.rep k.toNat) (by rw [len_rep, Nat.mul_comm]; exact hz), rfl, q _ I.fresh⟩
end
end L2
namespace Att
open PySem PySem.W PySem.Calls PyProof.Rows
theorem ints_of_wellAll {P : Params} {h : Heap} : ∀ (ns : List Int) (vs : List Value), WellAll P h vs (ns.map WData.int) -> IntsAre vs ns := by
  intro ns
  induction ns with
  | nil =>
    intro vs w; rw [List.map_nil] at w
    cases w
    exact .nil
  | cons n ns ih =>
    intro vs w; rw [List.map_cons] at w
    cases w with
    | cons a b =>
      cases a
      exact .cons _ _ (ih _ b)
theorem script_of {l : OpenLaw} {n : Nat} (hn : l.most = some n) {P : Params} {h : Heap} {args : List WData} {vals : List Value}
    (hpre : l.row.toRowW.claim.pre args = true) (hwl : WellAll P h vals args) :
    ∃ a vs ns, vals = [Value.ref a] /\ args = [WData.list (ns.map WData.int)] /\ h.get? a = some { cls := .type "list", data := .seq vs.toArray } /\ IntsAre vs ns /\ ns.length <= n := by
  have hsh : WShape.hasAll [] args [.list .int] = true := (pre_splitW hpre).1; have hc : l.pre.holds [] { args := args } = true := (pre_splitW hpre).2; refine hld fun g_ k_ => ?_; obtain ⟨d, r, rfl, h1, h2⟩ := hasAllW_cons hsh; refine k_ ?_; obtain rfl := hasAllW_nil h2; obtain ⟨xs, rfl, h3⟩ := hasW_list h1; obtain ⟨ns, rfl⟩ := items_int h3
  have hlen : ns.length <= n := by
    unfold OpenLaw.pre at hc
    have h4 : (WTm.not (.lt (.lit (.int (n : Int))) (.len (.arg 0)))).holds [] { args := [.list (ns.map .int)] } = true := by
      have h4 := (holds_andW hc).1; rw [hn] at h4; exact h4
    have h5 := condW_of h4 (w_not (w_lt w_lit (w_len_list (w_arg rfl)))); rw [List.length_map] at h5; refine Nat.le_of_not_lt fun q => ?_; have q' : (n : Int) < ((ns.length : Nat) : Int) := by omega
    first
      | (rw [decide_eq_true q'] at h5; exact absurd h5 (by decide))
      | (simp at h5; omega)
  cases hwl with
  | cons w1 w2 =>
    cases w2
    cases w1 with
    | list ho hall => exact ⟨_, _, ns, rfl, rfl, ho, ints_of_wellAll ns _ hall, hlen⟩
theorem post_true (l : OpenLaw) (args : List WData) : l.row.toRowW.claim.post args (.bool true) args = true :=
  postW_of (r := l.row.toRowW) (X := (true == true))
    (show WShape.has [] (.bool true) .bool = true by first | rfl | decide | simp [WShape.has, WShape.arms, WShape.armsAll])
    (show (WTm.eq .res (.lit (.bool true))).value [] { args := args, res := some (.bool true), after := args } = some (.bool (true == true)) from w_eq_bool (w_res rfl) w_lit) rfl
theorem attach_call {l : OpenLaw} {n : Nat} {q : Program} {loose : List Str} {XP : (Str -> Option Value) -> Heap -> Prop} {YP : World -> Heap -> Prop} {d : DefRec}
    (hn : l.most = some n) (hdf : d.params.defaults = [])
    (call : ∀ (w : World) (s₀ s₁ : Shared) (mg mb : Str -> Option Value) (fa : Addr) (o : Obj) (pm cd doc : Value) (a : Addr) (vs : List Value) (ns : List Int),
      Ground q loose [] XP w s₀ mg mb s₁.heap -> YP w s₁.heap ->
      s₁.heap.get? fa = some o -> o.data = .func (docDef d.name d.params d.body d.scope pm cd doc) -> s₁.heap.CodeRec cd d.name -> mg d.name = some (.ref fa) ->
      s₁.heap.get? a = some { cls := .type "list", data := .seq vs.toArray } -> IntsAre vs ns -> ns.length <= n -> s₁.gens = #[] ->
      codeAny (model l.prog w) callerA (.call (.ref fa) ⟨[.ref a], []⟩) (fun r s' => r = .ok (.ret (.bool true)) /\ OldK s₁.heap s'.heap /\ s'.os = s₁.os /\ AllBare s'.gens) s₁) :
    WalkO q loose XP YP l.row.toRowW d [] (fun f vs => PySem.call f vs) := by
  intro w s₀ s₁ mg mb G Y fa o pm cd doc dV kV ho hd hcd hD hmg hg args vals as hpre hlay hrd hwl hlo; obtain rfl : dV = .none := Dflts.none hD hdf; obtain rfl : kV = .none := Dflts.noKw hD; refine hld fun g_ k_ => ?_; obtain ⟨a, vs, ns, rfl, rfl, hobj, hints, hlen⟩ := script_of hn hpre hwl; refine k_ ?_; refine enter_call (codeAny_mono (call w s₀ s₁ mg mb fa o pm cd doc a vs ns G Y ho (fd_plain hd) hcd hmg hobj hints hlen hg) fun r s' hq => ?_); refine hld fun g_ k_ => ?_; obtain ⟨rfl, h2, h3, h4⟩ := hq; refine k_ ?_; exact ⟨.inl ⟨.bool true, .bool true, [], rfl, fun _ => rfl, .bool true, post_true l _, fun _ => ⟨List.Pairwise.nil, fun _ hm => (nomatch hm)⟩⟩, h2, h3, h4⟩
end Att
namespace L2
open PySem PySem.Spec PyProof.Rows
theorem vals_ints : ∀ {vs : List Value} {ns : List Int}, IntsAre vs ns -> Vals (ns.map V.int) vs
  | _, _, .nil => .nil
  | _, _, .cons n t h => .cons ⟨t, rfl⟩ (vals_ints h)
def Only (H : Hp) : Prop := ∀ b, H b = none \/ ∃ o xs, H b = some (.frz o (.lst xs))
theorem law_call {P : Program} {w : World} {K : PySem.W.Frag} {mg mb : Str -> Option Value} {CX : CXT} {k : Nat} {fa a : Addr} {fd : FuncData} {x : Str} {sp : Sp} {s₁ : Shared} {vs : List Value} {ns : List Int}
    (KX : K.In s₁.heap) (hns : s₁.heap.Ns mainGlobals mg) (hb : s₁.heap.Ns builtinsNs mb) (hbb : ∀ x : Str, x ≠ "__name__" -> mb x = bootBuiltins x) (hlim : s₁.heap.NoLimit) (hg : s₁.gens = #[])
    (ha : s₁.heap.get? a = some { cls := .type "list", data := .seq vs.toArray }) (hi : IntsAre vs ns) (hl : ns.length <= sizeLine) (hr : Room k callerA)
    (F : ∀ base : Heap, K.In base -> base.Ns mainGlobals mg -> FnOk P w K mg base CX k fa fd [x] sp) (hbind : ∀ (s : Shared) (u : Value), BindsTo s fd ⟨[u], []⟩ [(x, u)])
    (hsp : ∀ H : Hp, Only H -> SqL K H a (ns.map V.int) -> sp [.ref a] H (fun v _ => v = .bl true) fun _ _ _ => False)
    (hCX : ∀ H e s', CX [] H s₁ (fun _ _ _ => False) e s' -> False) :
    codeAny (model P w) callerA (.call (.ref fa) ⟨[.ref a], []⟩) (fun r s' => r = .ok (.ret (.bool true)) /\ OldK s₁.heap s'.heap /\ s'.os = s₁.os /\ AllBare s'.gens) s₁ := by
  have rv := vals_ints hi; have lenV := hi.length
  -- from an abstract heap in which nothing but the script may be tracked
  have core : ∀ H : Hp, Only H -> SqL K H a (ns.map V.int) -> HOk P w H s₁.heap -> (∀ b, H b ≠ none -> b = a) -> (H a ≠ none -> K.lookup a = none) ->
      codeAny (model P w) callerA (.call (.ref fa) ⟨[.ref a], []⟩) (fun r s' => r = .ok (.ret (.bool true)) /\ OldK s₁.heap s'.heap /\ s'.os = s₁.os /\ AllBare s'.gens) s₁ := by
    intro H hO hS hok hA hK; have base_of : ∀ {b : Addr} {o : Obj}, s₁.heap.get? b = some o -> H b = none -> (hidT s₁.heap H).get? b = some o := fun e n => hidT_get e n
    have noA : ∀ {b : Addr} {o : Obj} {es : Array DictEntry} {ep : Nat}, s₁.heap.get? b = some o -> o.data = .dict es ep -> H b = none := fun {b o es ep} e d => by
      cases q : H b with
      | none => rfl
      | some u =>
        have e' : b = a := hA b (by rw [q]; simp)
        subst e'; rw [ha] at e; cases e; have d' : Data.seq vs.toArray _ = Data.dict es ep := d
        cases d'
    have nsK : ∀ {b : Addr} {m : Str -> Option Value}, s₁.heap.Ns b m -> (hidT s₁.heap H).Ns b m := fun {b m} ⟨o, es, ep, e, d, r⟩ => ⟨o, es, ep, base_of e (noA e d), d, r⟩
    have hKb : K.In (hidT s₁.heap H) := fun b o e => base_of (KX b o e) (by
      cases q : H b with
      | none => rfl
      | some u =>
        have e' : b = a := hA b (by rw [q]; simp)
        subst e'; rw [hK (by rw [q]; simp)] at e; cases e)
    have hM : Mod K mg (hidT s₁.heap H) := ⟨hKb, nsK hns, ⟨mb, nsK hb, hbb⟩, let ⟨mc, h1, h2⟩ := hlim; ⟨mc, nsK h1, h2⟩⟩; have e0 : Env0 P w K mg (hidT s₁.heap H) callerA [] s₁ H := ⟨rfl, hM, fun b o e => of_hidT e, Nat.le_of_eq (hidT_size _ _), trivial, fun b hb => absurd (show b ∈ ([] : List Addr) from hb) (by simp), hok, .of_eq hg⟩
    refine codeAny_mono ((F _ hKb (nsK hns)).run callerA [] s₁ H ⟨[.ref a], []⟩ [.ref a] [.ref a] _ _ hr e0 (hbind s₁ (.ref a)) (.cons rfl .nil) (hsp H hO hS)) fun r s' h => ?_
    cases r with
    | error e => exact (hCX H e s' h).elim
    | ok fl =>
      cases fl with
      | next => exact False.elim h
      | brk => exact False.elim h
      | cont => exact False.elim h
      | ret u =>
        obtain ⟨v, H', os, bare, un, hok', r', q⟩ := h; have q' : v = .bl true := q; subst q'; obtain rfl : u = Value.bool true := r'; refine ⟨rfl, OldK.of_keep fun b o e => ?_, os, bare⟩
        cases q : H b with
        | none => exact un.keep b o e q (by intro z; exact absurd (show b ∈ ([] : List Addr) from z) (by simp)) (by simp)
        | some u =>
          rcases hO b with z | ⟨ob, xs, z⟩
          . rw [q] at z; cases z
          . have z2 := un.frzs b ob _ z
            obtain ⟨e1, _⟩ := hok b _ z; obtain ⟨e2, _⟩ := hok' b _ z2; rw [e] at e1; cases e1; exact e2
  cases hk : K.lookup a with
  | some o =>
    -- the script is one of the module's own objects
    have e := KX a o hk; rw [ha] at e
    cases e
    refine core (fun _ => none) (fun _ => .inl rfl) (.inr ⟨_, vs.toArray, _, hk, rfl, rfl, rfl, by rw [List.size_toArray, lenV]; exact hl, by simpa using rv⟩) (fun b u z => by have z' : (none : Option HO) = some u := z; cases z') (fun b z => absurd rfl z) fun z => absurd rfl z
  | none =>
    refine core (fun b => if b = a then some (.frz { cls := .type "list", data := .seq vs.toArray } (.lst (ns.map V.int))) else none) (fun b => ?_) (.inl (.inr ⟨{ cls := .type "list", data := .seq vs.toArray }, if_pos rfl⟩)) (fun b u z => ?_) (fun b z => ?_) fun _ => hk
    . by_cases hb : b = a
      . exact .inr ⟨_, _, if_pos hb⟩
      . exact .inl (if_neg hb)
    . by_cases hb : b = a
      . have z' := (if_pos hb).symm.trans z
        cases z'
        subst hb; exact ⟨ha, by rw [List.length_map]; exact hl, vs, _, rv, ha⟩
      . have z' := (if_neg hb).symm.trans z
        cases z'
    . by_cases hb : b = a
      . exact hb
      . exact absurd (if_neg hb) z
end L2
namespace L2
open PySem PySem.Spec PyProof.Rows
theorem walk_of {l : PySem.W.OpenLaw} {n k : Nat} {q : Program} {loose : List Str} {XP : (Str -> Option Value) -> Heap -> Prop} {YP : World -> Heap -> Prop} {d : DefRec} {K : Params -> PySem.W.Frag} {CX : World -> CXT} {sp : World -> Sp} {x : Str}
    (hn : l.most = some n) (hn2 : n <= sizeLine) (hdf : d.params.defaults = []) (hr : Room k callerA)
    (hY : ∀ (w : World) (h : Heap), YP w h -> (K w.params).In h)
    (F : ∀ (w : World) (mg : Str -> Option Value) (fa : Addr) (h : Heap), (K w.params).In h -> h.Ns mainGlobals mg -> mg d.name = some (.ref fa) ->
      ∃ fd : FuncData, (∀ (s : Shared) (u : Value), BindsTo s fd ⟨[u], []⟩ [(x, u)]) /\
        ∀ base : Heap, (K w.params).In base -> base.Ns mainGlobals mg -> FnOk l.prog w (K w.params) mg base (CX w) k fa fd [x] (sp w))
    (hsp : ∀ (w : World) (H : Hp) (a : Addr) (ns : List Int), ns.length <= n -> Only H -> SqL (K w.params) H a (ns.map V.int) -> sp w [.ref a] H (fun v _ => v = .bl true) fun _ _ _ => False)
    (hCX : ∀ (w : World) (H : Hp) (s : Shared) (e : Value) (s' : Shared), CX w [] H s (fun _ _ _ => False) e s' -> False) :
    PySem.W.WalkO q loose XP YP l.row.toRowW d [] (fun f vs => PySem.call f vs) := by
  refine Att.attach_call hn hdf fun w s₀ s₁ mg mb fa o pm cd doc a vs ns G Y ho hd hcd hmg hobj hints hlen hg => ?_; have KX := hY w _ Y; obtain ⟨fd, hb, hF⟩ := F w mg fa _ KX G.T.g hmg; exact law_call KX G.T.g G.T.b G.T.builtins G.T.nolimit hg hobj hints (Nat.le_trans hlen hn2) hr hF hb (fun H hO hS => hsp w H a ns hlen hO hS) fun H e s' => hCX w H s₁ e s'
end L2
namespace L2
open PySem PySem.Spec PyProof.Rows
def defArgs (s : Stmt) : Arguments := match s with
  | .FunctionDef _ a _ _ _ _ _ _ _ _ => a
  | _ => { posonlyargs := [], args := [], vararg := none, kwonlyargs := [], kw_defaults := [], kwarg := none, defaults := [] }
def defBody (s : Stmt) : List Stmt := match s with
  | .FunctionDef _ _ b _ _ _ _ _ _ _ => b
  | _ => []
def defScope (s : Stmt) : Scope := match s with
  | .FunctionDef _ _ _ _ _ _ sc _ _ _ => sc
  | _ => { kind := .function, names := [], isGenerator := false, isCoroutine := false }
abbrev CX0 : CXT := fun _ _ _ _ _ _ => False
abbrev E0 : XK := fun _ _ _ => False
theorem pass0 {X : Cx} : Passes CX0 X E0 := fun _ _ _ _ _ _ _ h => h.elim
structure Fun (K : PySem.W.Frag) (x qual : Str) (st : Stmt) (f : Addr) (fd : FuncData) : Prop where
  ex : ∃ (oc : Value) (od : Option Addr) (kV doc pm : Value) (an : Option Addr) (cdv ct : Value) (osl : Array (Option Value)),
    fd = PySem.W.fnOf x qual (defArgs st) (defBody st) (defScope st) .none kV doc pm an cdv ct /\ K.lookup f = some ⟨oc, od, .func fd, osl⟩ /\ PySem.W.codeIn K cdv qual = true
  kp : PySem.W.keepIn K (.ref f) = true
section
variable {P : Program} {w : World} {K : PySem.W.Frag} {mg : Str -> Option Value} {base : Heap}
theorem Fun.ok {x qual : Str} {st : Stmt} {f : Addr} {fd : FuncData} {N ps : List Str} {k : Nat} {sp : Sp} (F : Fun K x qual st f fd) (S : FnScope N ps (defScope st)) (len : ∀ vs H Q E, sp vs H Q E -> vs.length = ps.length)
    (hbody : ∀ (cdv : Value) (A : Around) (outer : List Env) (s : Shared) (H : Hp) (vs : List V) (Q : VK) (E : XK), Room k (A.deeper (envOfC qual (defScope st) s.heap.objs.size f cdv)) -> sp vs H Q E ->
      ∃ t, PSs (cxOf CX0 P w K mg base N qual (defScope st) f cdv A outer s H E).nox (defBody st) t /\ t { nx := fun _ H' => Q .non H', rt := Q } (start N vs) H) : FnOk P w K mg base CX0 (k + 1) f fd ps sp := by
  refine hld fun g_ k_ => ?_; obtain ⟨oc, od, kV, doc, pm, an, cdv, ct, osl, rfl, lk, hcd⟩ := F.ex; refine k_ ?_; refine fn_of lk hcd S len fun A outer s H vs Q E hr hsp => ?_; obtain ⟨t, h, q⟩ := hbody cdv A outer s H vs Q E hr hsp; exact ⟨t, h.nox, q⟩
theorem Fun.binds {x qual : Str} {st : Stmt} {f : Addr} {fd : FuncData} {ps : List Str} (F : Fun K x qual st f fd)
    (h : ∀ (kV doc pm : Value) (an : Option Addr) (cdv ct : Value) (us : List Value), us.length = ps.length -> bindArgs (PySem.W.fnOf x qual (defArgs st) (defBody st) (defScope st) .none kV doc pm an cdv ct) ⟨us, []⟩ = pure (ps.zip us)) : Binds K fd ps [] := by
  refine hld fun g_ k_ => ?_; obtain ⟨oc, od, kV, doc, pm, an, cdv, ct, osl, rfl, lk, hcd⟩ := F.ex; refine k_ ?_; exact .all (h kV doc pm an cdv ct)
theorem fun_mk {x qual : Str} {st : Stmt} {f : Addr} {oc : Value} {od an : Option Addr} {osl : Array (Option Value)} {kV doc pm cdv ct : Value} (l : K.lookup f = some ⟨oc, od, .func (PySem.W.fnOf x qual (defArgs st) (defBody st) (defScope st) .none kV doc pm an cdv ct), osl⟩)
    (c : PySem.W.codeIn K cdv qual = true) (k : PySem.W.keepIn K (.ref f) = true) : Fun K x qual st f (PySem.W.fnOf x qual (defArgs st) (defBody st) (defScope st) .none kV doc pm an cdv ct) := ⟨⟨oc, od, kV, doc, pm, an, cdv, ct, osl, rfl, l, c⟩, k⟩
end
theorem small1000 {n : Nat} (h : n <= 1000) : n < sizeLine := Nat.lt_of_le_of_lt h (by decide)
section
variable {X : Cx}
theorem pv (i : Nat) {x : Str} {pos : Pos} (hN : X.N[i]? = some x := by rfl) (hv : Vis X.env.scope x := by first | exact Or.inl rfl | exact Or.inr (Or.inl rfl) | exact Or.inr (Or.inr rfl)) (hd : (x == ("__debug__" : Str)) = false := by decide)
    (hcd : (x == ("__classdict__" : Str)) = false := by decide) : PE X (.Name x pos) (tVar i) := pe_var hN hv hd hcd
end
theorem iteF {A B : Prop} (h : B) : if false = true then A else B := by
  rw [if_neg Bool.false_ne_true]; exact h
theorem iteT {A B : Prop} (h : A) : if true = true then A else B := by
  rw [if_pos rfl]; exact h
theorem ite2 {c A B : Prop} [Decidable c] (h1 : c -> A) (h2 : ¬ c -> B) : if c then A else B := by
  by_cases h : c
  . rw [if_pos h]
    exact h1 h
  . rw [if_neg h]
    exact h2 h
theorem iteNS {c A B : Prop} [Decidable c] (hc : c) (h : B) : if (!decide c) = true then A else B := by
  rw [decide_eq_true hc]; exact iteF h
def Same (H H' : Hp) : Prop := ∀ b o, H b = some o -> H' b = some o
theorem Same.refl (H : Hp) : Same H H := fun _ _ h => h
theorem Same.trans {H H1 H2 : Hp} (a : Same H H1) (b : Same H1 H2) : Same H H2 := fun c o h => b c o (a c o h)
theorem Same.free {H H' : Hp} (e : Same H H') {l : Addr} (h : H' l = Option.none) : H l = Option.none := by
  cases q : H l with
  | none => rfl
  | some o =>
    rw [e l o q] at h
    cases h
end L2
namespace KM
abbrev Tx := List Nat
def leT (a b : Tx) : Bool := decide (a <= b)
def srt (ts : List Tx) : List Tx := ts.mergeSort leT
theorem leT_iff {a b : Tx} : leT a b = true ↔ a <= b := by unfold leT; exact decide_eq_true_iff
theorem srt_perm (ts : List Tx) : (srt ts).Perm ts := List.mergeSort_perm ts leT
theorem srt_pw (ts : List Tx) : (srt ts).Pairwise (fun a b => a <= b) := by
  have h := List.pairwise_mergeSort (le := leT) (fun a b c h1 h2 => leT_iff.mpr (List.le_trans (leT_iff.mp h1) (leT_iff.mp h2)))
    (fun a b => by
      rcases List.le_total a b with h | h
      . rw [leT_iff.mpr h]; rfl
      . rw [leT_iff.mpr h, Bool.or_true]) ts
  exact h.imp fun h => leT_iff.mp h
theorem srt_of {ss ts : List Tx} (hp : ss.Perm ts) (hs : ss.Pairwise (fun a b => a <= b)) : ss = srt ts :=
  List.Perm.eq_of_pairwise (le := fun a b => a <= b) (fun a b _ _ h1 h2 => List.le_antisymm h1 h2) hs (srt_pw ts) (hp.trans (srt_perm ts).symm)
theorem srt_congr {ss ts : List Tx} (hp : ss.Perm ts) : srt ss = srt ts := srt_of ((srt_perm ss).trans hp) (srt_pw ss)
abbrev Ab := List (Option Nat)
theorem sub_sum : ∀ {l₁ l₂ : List Nat}, l₁.Sublist l₂ -> l₁.sum <= l₂.sum
  | _, _, .slnil => Nat.le_refl _
  | _, _, .cons a h => by rw [List.sum_cons]; have := sub_sum h; omega
  | _, _, .cons_cons a h => by rw [List.sum_cons, List.sum_cons]; have := sub_sum h; omega
def kids (ab : Ab) (k : Nat) : List Nat := (List.range ab.length).filter fun j => ab[j]? == some (some k)
theorem mem_kids {ab : Ab} {k j : Nat} : j ∈ kids ab k ↔ ab[j]? = some (some k) := by
  unfold kids
  rw [List.mem_filter, List.mem_range]
  constructor
  . intro h; exact eq_of_beq h.2
  . intro h
    exact ⟨(List.getElem?_eq_some_iff.mp h).1, by rw [h]; exact beq_self_eq_true _⟩
theorem kids_nodup (ab : Ab) (k : Nat) : (kids ab k).Nodup := List.Pairwise.sublist List.filter_sublist List.nodup_range
theorem kids_lt {ab : Ab} {k j : Nat} (h : j ∈ kids ab k) : j < ab.length := (List.getElem?_eq_some_iff.mp (mem_kids.mp h)).1
def brk (t : Tx) : Tx := 40 :: (t ++ [41])
def form (ab : Ab) : Nat -> Nat -> Tx
  | 0, _ => []
  | f + 1, k => brk (srt ((kids ab k).map (form ab f))).flatten
structure Tree (ab : Ab) (r : Nat) (rk : Nat -> Nat) : Prop where
  root : ab[r]? = some none
  only : ∀ (j : Nat), ab[j]? = some none -> j = r
  up : ∀ (j p : Nat), ab[j]? = some (some p) -> p < ab.length /\ rk p < rk j
  low : ∀ (j : Nat), j < ab.length -> rk j < ab.length
section
variable {ab : Ab} {r : Nat} {rk : Nat -> Nat}
theorem Tree.stable (T : Tree ab r rk) : ∀ (d k f g : Nat), k < ab.length -> ab.length - rk k <= d -> ab.length - rk k <= f -> ab.length - rk k <= g -> form ab f k = form ab g k
  | 0, k, f, g, hk, hd, _, _ => by have := T.low k hk; omega
  | d + 1, k, f, g, hk, hd, hf, hg => by
    have h0 := T.low k hk; obtain ⟨f', rfl⟩ : ∃ f', f = f' + 1 := ⟨f - 1, by omega⟩
    obtain ⟨g', rfl⟩ : ∃ g', g = g' + 1 := ⟨g - 1, by omega⟩
    show brk _ = brk _
    congr 3
    refine List.map_congr_left fun c hc => ?_; have h1 := (T.up c k (mem_kids.mp hc)).2; have h2 := T.low c (kids_lt hc); exact T.stable d c f' g' (kids_lt hc) (by omega) (by omega) (by omega)
def fm (ab : Ab) (k : Nat) : Tx := form ab ab.length k
theorem Tree.fm_eq (T : Tree ab r rk) {k : Nat} (hk : k < ab.length) : fm ab k = brk (srt ((kids ab k).map (fm ab))).flatten := by
  have e : fm ab k = form ab (ab.length + 1) k := T.stable _ k _ _ hk (Nat.le_refl _) (by omega) (by omega)
  rw [e]
  rfl
end
theorem sum_map_le {α : Type} (l : List α) (f g : α -> Nat) (h : ∀ a ∈ l, f a <= g a) : (l.map f).sum <= (l.map g).sum := by
  induction l with
  | nil => exact Nat.le_refl _
  | cons a l ih =>
    rw [List.map_cons, List.map_cons, List.sum_cons, List.sum_cons]; exact Nat.add_le_add (h a List.mem_cons_self) (ih fun b hb => h b (List.mem_cons_of_mem _ hb))
theorem sum_map_add {α : Type} (l : List α) (f g : α -> Nat) : (l.map fun a => f a + g a).sum = (l.map f).sum + (l.map g).sum := by
  induction l with
  | nil => rfl
  | cons a l ih => rw [List.map_cons, List.map_cons, List.map_cons, List.sum_cons, List.sum_cons, List.sum_cons, ih]; omega
theorem sum_const {α : Type} (l : List α) (c : Nat) : (l.map fun _ => c).sum = l.length * c := by
  induction l with
  | nil => simp
  | cons a l ih => rw [List.map_cons, List.sum_cons, ih, List.length_cons, Nat.add_mul]; omega
theorem one_above (o : Option (Option Nat)) (x : Nat) : ∀ l : List Nat, l.Nodup -> (l.map fun k => if o == some (some k) then x else 0).sum <= x
  | [], _ => by simp
  | k :: l, h => by
    rw [List.map_cons, List.sum_cons]; have hn := List.nodup_cons.mp h
    by_cases e : (o == some (some k)) = true
    . rw [if_pos e]
      have z : (l.map fun k => if o == some (some k) then x else 0) = l.map fun _ => 0 := by
        refine List.map_congr_left fun j hj => ?_; rw [if_neg]; intro q; rw [eq_of_beq e] at q; have : k = j := Option.some.inj (Option.some.inj (eq_of_beq q)); subst this; exact hn.1 hj
      rw [z, sum_const]
      omega
    . rw [if_neg e]
      have := one_above o x l hn.2
      omega
theorem sum_filter (ab : Ab) (g : Nat -> Nat) (ks : List Nat) (hk : ks.Nodup) : ∀ l : List Nat,
    (ks.map fun k => ((l.filter fun j => ab[j]? == some (some k)).map g).sum).sum <= (l.map g).sum
  | [] => by
    have : (ks.map fun k => ((([] : List Nat).filter fun j => ab[j]? == some (some k)).map g).sum) = ks.map fun _ => 0 := rfl; rw [this, sum_const]
    simp
  | j :: l => by
    have ih := sum_filter ab g ks hk l
    have e : (ks.map fun k => (((j :: l).filter fun i => ab[i]? == some (some k)).map g).sum) =
        ks.map fun k => (if ab[j]? == some (some k) then g j else 0) + ((l.filter fun i => ab[i]? == some (some k)).map g).sum := by
      refine List.map_congr_left fun k _ => ?_
      by_cases q : (ab[j]? == some (some k)) = true
      . rw [List.filter_cons_of_pos (p := fun i => ab[i]? == some (some k)) q, List.map_cons, List.sum_cons, if_pos q]
      . rw [List.filter_cons_of_neg (p := fun i => ab[i]? == some (some k)) q, if_neg q, Nat.zero_add]
    rw [e, sum_map_add, List.map_cons, List.sum_cons]; have := one_above ab[j]? (g j) ks hk
    omega
theorem brk_len (t : Tx) : (brk t).length = t.length + 2 := by
  unfold brk
  rw [List.length_cons, List.length_append, List.length_singleton]
theorem flat_len (ts : List Tx) : ts.flatten.length = (ts.map (·.length)).sum := List.length_flatten
theorem srt_len (ts : List Tx) : (srt ts).flatten.length = (ts.map (·.length)).sum := by
  rw [flat_len]; exact ((srt_perm ts).map _).sum_nat
theorem form_len (ab : Ab) (f k : Nat) : (form ab (f + 1) k).length = ((kids ab k).map fun c => (form ab f c).length).sum + 2 := by
  show (brk _).length = _
  rw [brk_len, srt_len, List.map_map]
  rfl
theorem forms_all (ab : Ab) : ∀ f : Nat, ((List.range ab.length).map fun k => (form ab f k).length).sum <= 2 * ab.length * f
  | 0 => by
    have : ((List.range ab.length).map fun k => (form ab 0 k).length) = (List.range ab.length).map fun _ => 0 := rfl; rw [this, sum_const]; simp
  | f + 1 => by
    have e : ((List.range ab.length).map fun k => (form ab (f + 1) k).length) = (List.range ab.length).map fun k => ((kids ab k).map fun c => (form ab f c).length).sum + 2 :=
      List.map_congr_left fun k _ => form_len ab f k
    rw [e, sum_map_add, sum_const, List.length_range]; have h1 : ((List.range ab.length).map fun k => ((kids ab k).map fun c => (form ab f c).length).sum).sum <= _ := sum_filter ab (fun c => (form ab f c).length) (List.range ab.length) List.nodup_range (List.range ab.length); have h2 := forms_all ab f; rw [Nat.mul_add]
    omega
theorem mem_le_sum {l : List Nat} {x : Nat} (h : x ∈ l) : x <= l.sum := by
  induction l with
  | nil => cases h
  | cons a l ih =>
    rw [List.sum_cons]
    rcases List.mem_cons.mp h with rfl | h
    . omega
    . have := ih h; omega
theorem fm_kids_len (ab : Ab) (k : Nat) : ((kids ab k).map fun c => (fm ab c).length).sum <= 2 * ab.length * ab.length := by
  have h1 : ((kids ab k).map fun c => (fm ab c).length).sum <= ((List.range ab.length).map fun c => (form ab ab.length c).length).sum := by
    unfold kids fm
    exact sub_sum (List.Sublist.map _ List.filter_sublist)
  exact Nat.le_trans h1 (forms_all ab _)
def kidsTo (ab : Ab) (k i : Nat) : List Nat := (List.range i).filter fun j => ab[j]? == some (some k)
theorem kidsTo_all (ab : Ab) (k : Nat) : kidsTo ab k ab.length = kids ab k := rfl
theorem kidsTo_hit {ab : Ab} {k i : Nat} (h : ab[i]? = some (some k)) : kidsTo ab k (i + 1) = kidsTo ab k i ++ [i] := by
  unfold kidsTo
  rw [List.range_succ, List.filter_append]
  congr 1
  rw [List.filter_cons_of_pos (by rw [h]; exact beq_self_eq_true _)]
  rfl
theorem kidsTo_miss {ab : Ab} {k i : Nat} (h : ab[i]? ≠ some (some k)) : kidsTo ab k (i + 1) = kidsTo ab k i := by
  unfold kidsTo
  rw [List.range_succ, List.filter_append, List.filter_cons_of_neg (by intro q; exact h (eq_of_beq q))]
  simp
theorem kidsTo_len (ab : Ab) (k i : Nat) : (kidsTo ab k i).length <= i := by
  have h := List.length_filter_le (fun j => ab[j]? == some (some k)) (List.range i); rw [List.length_range] at h; exact h
theorem kids_len (ab : Ab) (k : Nat) : (kids ab k).length <= ab.length := kidsTo_len ab k ab.length
def rootsTo (ab : Ab) (i : Nat) : List Nat := (List.range i).filter fun j => ab[j]? == some none
theorem rootsTo_hit {ab : Ab} {i : Nat} (h : ab[i]? = some none) : rootsTo ab (i + 1) = rootsTo ab i ++ [i] := by
  unfold rootsTo
  rw [List.range_succ, List.filter_append]
  congr 1
  rw [List.filter_cons_of_pos (by rw [h]; exact beq_self_eq_true _)]
  rfl
theorem rootsTo_miss {ab : Ab} {i : Nat} (h : ab[i]? ≠ some none) : rootsTo ab (i + 1) = rootsTo ab i := by
  unfold rootsTo
  rw [List.range_succ, List.filter_append, List.filter_cons_of_neg (by intro q; exact h (eq_of_beq q))]
  simp
theorem rootsTo_len (ab : Ab) (i : Nat) : (rootsTo ab i).length <= i := by
  have h := List.length_filter_le (fun j => ab[j]? == some none) (List.range i); rw [List.length_range] at h; exact h
section
variable {ab : Ab} {r : Nat} {rk : Nat -> Nat}
theorem Tree.rlt (T : Tree ab r rk) : r < ab.length := (List.getElem?_eq_some_iff.mp T.root).1
structure Bfs (ab : Ab) (r : Nat) (ord : List Nat) (pl : Nat) : Prop where
  nd : ord.Nodup
  lt : ∀ k ∈ ord, k < ab.length
  eq : ord = r :: (ord.take pl).flatMap (kids ab)
  le : pl <= ord.length
  late : ∀ (i k c : Nat), i < pl -> ord[i]? = some k -> c ∈ kids ab k -> ∃ j, i < j /\ ord[j]? = some c
theorem Bfs.len {ord : List Nat} {pl : Nat} (B : Bfs ab r ord pl) : ord.length <= ab.length := by
  have h := B.nd.length_le_of_subset (l₂ := List.range ab.length) fun k hk => List.mem_range.mpr (B.lt k hk); rw [List.length_range] at h; exact h
theorem Bfs.all (T : Tree ab r rk) {ord : List Nat} (B : Bfs ab r ord ord.length) : ∀ (d j : Nat), rk j <= d -> j < ab.length -> j ∈ ord
  | d, j, hd, hj => by
    cases q : ab[j] with
    | none =>
      have := T.only j (by rw [List.getElem?_eq_getElem hj, q])
      subst this; rw [B.eq]; exact List.mem_cons_self
    | some p =>
      have hp : ab[j]? = some (some p) := by rw [List.getElem?_eq_getElem hj, q]
      obtain ⟨hpl, hr⟩ := T.up j p hp
      have hm : p ∈ ord := by
        match d, hd with
        | 0, hd => omega
        | d + 1, hd => exact Bfs.all T B d p (by omega) hpl
      obtain ⟨i, hi⟩ := List.mem_iff_getElem?.mp hm; obtain ⟨j', _, hj'⟩ := B.late i p j (List.getElem?_eq_some_iff.mp hi).1 hi (mem_kids.mpr hp); exact List.mem_iff_getElem?.mpr ⟨j', hj'⟩
theorem Bfs.whole (T : Tree ab r rk) {ord : List Nat} (B : Bfs ab r ord ord.length) : ord.length = ab.length := by
  have h1 := B.len; have h2 := List.nodup_range.length_le_of_subset (l₁ := List.range ab.length) (l₂ := ord) fun j hj => Bfs.all T B _ j (Nat.le_refl _) (List.mem_range.mp hj); rw [List.length_range] at h2
  omega
end
structure Up (ab : Ab) : Prop where
  root : ab[0]? = some none
  up : ∀ (j : Nat), 0 < j -> j < ab.length -> ∃ p, ab[j]? = some (some p) /\ p < j
theorem up1 : Up [none] := ⟨rfl, fun j h1 h2 => by simp at h2; omega⟩
theorem Up.pos {ab : Ab} (U : Up ab) : 0 < ab.length := (List.getElem?_eq_some_iff.mp U.root).1
theorem Up.snoc {ab : Ab} (U : Up ab) {p : Nat} (h : p < ab.length) : Up (ab ++ [some p]) := by
  refine ⟨by rw [List.getElem?_append_left U.pos]; exact U.root, fun j h1 h2 => ?_⟩
  rw [List.length_append, List.length_singleton] at h2
  by_cases e : j < ab.length
  . rw [List.getElem?_append_left e]; exact U.up j h1 e
  . have : j = ab.length := by omega
    subst this; exact ⟨p, by rw [List.getElem?_append_right (Nat.le_refl _), Nat.sub_self]; rfl, h⟩
theorem Up.take {ab : Ab} (U : Up ab) {n : Nat} (h : 0 < n) : Up (ab.take n) := by
  refine ⟨by rw [List.getElem?_take_of_lt h]; exact U.root, fun j h1 h2 => ?_⟩
  rw [List.length_take] at h2; rw [List.getElem?_take_of_lt (by omega)]
  exact U.up j h1 (by omega)
theorem Up.tree {ab : Ab} (U : Up ab) : Tree ab 0 id where
  root := U.root
  only := by
    intro j hj
    by_cases h : 0 < j
    . obtain ⟨p, hp, _⟩ := U.up j h (List.getElem?_eq_some_iff.mp hj).1
      rw [hp] at hj; cases hj
    . omega
  up := by
    intro j p hj; have hl := (List.getElem?_eq_some_iff.mp hj).1
    by_cases h : 0 < j
    . obtain ⟨q, hq, hlt⟩ := U.up j h hl
      rw [hq] at hj
      cases hj
      exact ⟨by omega, hlt⟩
    . have : j = 0 := by omega
      subst this; rw [U.root] at hj; cases hj
  low := fun j h => h
end KM
namespace L2
open PySem PySem.Spec PyProof.Rows
section
variable {X : Cx} {pins : List (Addr × Obj)} {σ : St} {H : Hp} {s : Shared} {h' : Heap}
theorem Inv.turnedL {t' : Nat} {fp : List Addr} (I : Inv X pins σ H s) (hf : ∀ b ∈ fp, FpOk X pins H b)
    (k : ∀ b o, b ∉ fp -> s.heap.get? b = some o -> h'.get? b = some o) : Inv X pins σ H { s with heap := h', toks := t' } := by
  have nit : ∀ b u, H b = some u -> b ∉ fp := fun b u e z => by rw [(hf b z).1] at e; cases e
  refine I.step (g' := s.gens) (d' := s.drawn) (ch := fp) (fun b hb => ?_) (fun b o _ _ hc e _ => k b o hc e) (fun b o _ _ hc e _ => ⟨o.slots, k b o hc e⟩) (fun _ _ _ _ n => n)
    (fun b o hc e => ⟨o, k b o hc e⟩) (fun _ _ e => e) (fun _ _ _ e => e) (fun b ps e => ⟨#[], by rw [e]; simp⟩) (fun m hm => ?_) (fun b u e => ?_) I.bare
  . obtain ⟨_, f1, _, f3, f4, f5⟩ := hf b hb
    exact ⟨f3, f1, f4, f5⟩
  . obtain ⟨o, es, ep, ho, r⟩ := hm
    exact ⟨o, es, ep, k _ o (fun z => (hf _ z).2.1 rfl) ho, r⟩
  . refine (I.hok b u e).stay (fun c v hc q => k c v ?_ q) (fun _ q => q) fun _ _ q => q
    rcases hc with z | z
    . rw [z]; exact nit b u e
    . exact nit c _ z
theorem Inv.turnLay {t' : Nat} {fp : List Addr} {p : Addr} {o : HO} (I : Inv X pins σ H s) (hf : ∀ b ∈ fp, FpOk X pins H b)
    (k : ∀ b ob, b ∉ fp -> s.heap.get? b = some ob -> h'.get? b = some ob) (hp : s.heap.objs.size <= p) (new : ObjOk X.prog X.w (upd H p o) h' p o) : Inv X pins σ (upd H p o) { s with heap := h', toks := t' } := by
  have hn : H p = none := I.hok.fresh hp; have nit : ∀ b u, H b = some u -> b ∉ fp := fun b u e z => by rw [(hf b z).1] at e; cases e
  have up : ∀ b u, H b = some u -> upd H p o b = some u := fun b u e => by rw [upd_ne (ne_of_none e hn)]; exact e
  refine I.step (g' := s.gens) (d' := s.drawn) (ch := fp) (fun b hb => ?_) (fun b ob _ _ hc e _ => k b ob hc e) (fun b ob _ _ hc e _ => ⟨ob.slots, k b ob hc e⟩) (fun b ob _ e n => ?_)
    (fun b ob hc e => ⟨ob, k b ob hc e⟩) (fun b xs e => up b _ e) (fun b ob u e => up b _ e) (fun b ps e => ⟨#[], by rw [up b _ e]; simp⟩) (fun m hm => ?_) (fun b u e => ?_) I.bare
  . obtain ⟨_, f1, _, f3, f4, f5⟩ := hf b hb
    exact ⟨f3, f1, f4, f5⟩
  . rw [upd_ne (Nat.ne_of_lt (Nat.lt_of_lt_of_le (Heap.lt_size e) hp))]
    exact n
  . obtain ⟨ob, es, ep, ho, r⟩ := hm
    exact ⟨ob, es, ep, k _ ob (fun z => (hf _ z).2.1 rfl) ho, r⟩
  . by_cases hb : b = p
    . subst hb
      rw [upd_same] at e
      cases e
      exact new
    . rw [upd_ne hb] at e
      refine (I.hok b u e).stay (fun c v hc q => k c v ?_ q) (fun c q => up c _ q) fun c xs q => up c _ q
      rcases hc with z | z
      . rw [z]; exact nit b u e
      . exact nit c _ z
end
def Ite (K : PySem.W.Frag) (a : Addr) : It :=
  ⟨fun i H => ∃ xs x, SqL K H a xs /\ xs[i]? = some x,
   fun i H x H' => ∃ p y, x = .ref p /\ H p = none /\ H' = upd H p (.tup [.int i, y]) /\ ∀ xs, SqL K H a xs -> xs[i]? = some y,
   fun i H => ∃ xs, SqL K H a xs /\ xs.length <= i⟩
theorem turn_enum {P : Program} {w : World} {K : PySem.W.Frag} {elts : List Expr} {x1 : Nat} {tpos : Pos} (a e it : Addr) (hne : e ≠ it) :
    Turn P w K (.Tuple elts x1 tpos) (Ite K a) [e, it] e (fun i h => (∃ old, IsEnum h e it (i : Int) old) /\ h.IsListIter it a i) where
  mem := by simp
  obj := fun i h st b hb => by
    rcases List.mem_cons.mp hb with e' | hb
    . subst e'
      obtain ⟨⟨old, q⟩, _⟩ := st; exact ⟨_, q, fun v z => by cases z⟩
    . have e' : b = it := by simpa using hb
      subst e'; refine hld fun g_ k_ => ?_; obtain ⟨_, o, q, c, d⟩ := st; refine k_ ?_; exact ⟨o, q, fun v z => by rw [d] at z; cases z⟩
  keep := fun i h h' st k => ⟨let ⟨old, q⟩ := st.1; ⟨old, k e (by simp) _ q⟩, st.2.at fun o q => k it (by simp) o q⟩
  item := by
    intro X hP hw hK hc i pins s σ H E I hf st hg; subst hP hw hK; refine hld fun g_ k_ => ?_; obtain ⟨xs, x, hq, hx⟩ := hg; refine k_ ?_; obtain ⟨⟨old, he⟩, hit⟩ := st; refine hld fun g_ k_ => ?_; obtain ⟨its, rv, p, hz⟩ := I.list hq; refine k_ ?_; obtain ⟨u, hu, ru⟩ := rv.get hx; refine wpAny_pyNext_enum_item he hit p.isList (x := u) (by simpa using hu) hne fun h1 heo hit1 ht hsz hk => ⟨.ref s.heap.objs.size, rfl, ?_⟩
    refine wpAny_letOwnedTupleGo_enum heo fun h2 he2 hs2 => ?_
    replace hs2 : Heap.SameBut e h1 h2 := hs2
    have hel : e < s.heap.objs.size := Heap.lt_size he; have ht2 : h2.get? s.heap.objs.size = some { cls := .type "tuple", data := .seq #[.int i s.toks, u] } := (hs2.2 _ (Nat.ne_of_gt hel)).trans ht; have hn : H s.heap.objs.size = none := I.hok.fresh (Nat.le_refl _)
    refine ⟨.ref s.heap.objs.size, upd H s.heap.objs.size (.tup [.int i, x]), I.turnLay (t' := s.toks + 1) hf (fun b o hb q => ?_) (Nat.le_refl _) ?_, rfl,
      ⟨_, x, rfl, hn, rfl, fun ys hy => by rw [I.list_inj hy hq]; exact hx⟩, ⟨⟨u, ?_⟩, ?_⟩, fun b hb => ?_⟩
    . have hbe : b ≠ e := fun z => hb (by simp [z])
      have hbi : b ≠ it := fun z => hb (by simp [z])
      exact (hs2.2 b hbe).trans (hk b o hbe hbi q)
    . exact ⟨by show 2 <= sizeLine; decide, [.int i s.toks, u], .cons ⟨_, rfl⟩ (.cons ru .nil), _, ht2, rfl, 0, rfl⟩
    . have e2 : ((i + 1 : Nat) : Int) = (i : Int) + 1 := by omega
      rw [e2]; exact he2
    . exact hit1.extBut hs2.extBut (Ne.symm hne)
    . rw [upd_ne]
      . exact (hf b hb).1
      . obtain ⟨o, q, _⟩ : ∃ o, s.heap.get? b = some o /\ True := by
          rcases List.mem_cons.mp hb with e' | hb
          . subst e'; exact ⟨_, he, trivial⟩
          . have e' : b = it := by simpa using hb
            subst e'; obtain ⟨o, q, _⟩ := id hit; exact ⟨o, q, trivial⟩
        exact Nat.ne_of_lt (Heap.lt_size q)
  done := by
    intro X hP hw hK hc i pins s σ H E I hf st hg; subst hP hw hK; obtain ⟨xs, hq, hx⟩ := hg; obtain ⟨⟨old, he⟩, hit⟩ := st; refine hld fun g_ k_ => ?_; obtain ⟨its, rv, p, hz⟩ := I.list hq; refine k_ ?_; have hl := rv.length; exact wpAny_pyNext_enum_end (I.ok.hd hc) he hit p.isList (by simp; omega) fun h1 eb => ⟨rfl, I.turnedL (t' := s.toks) hf fun b o hb q => eb b o (fun z => hb (by simp [z])) q⟩
  self := fun A i s Q E st h => let ⟨⟨old, he⟩, _⟩ := st; wpAny_pyIter_enum he h
def iEnum (K : PySem.W.Frag) (ta : TA) : TI := fun σ H R => ta σ H fun vs H1 => ∃ a, vs = [.ref a] /\ (∃ xs, SqL K H1 a xs) /\ R (Ite K a) H1
section
variable {X : Cx}
theorem pi_enum {elts : List Expr} {x1 : Nat} {tpos : Pos} {l : Expr} {ta : TA} {p pos : Pos} (hg : Gl X "enumerate") (hm : X.mg "enumerate" = none) (ha : PA X [l] ta) (hs : starEach [l] X.env = [(false, eval l X.env)] := by rfl) :
    PI X (.Tuple elts x1 tpos) (.Call (.Name "enumerate" p) [l] [] pos) (iEnum X.K ta) := by
  intro pins s σ H R I h; refine Call_ (ld_blt I hg hm boot_enumerate (PyProof.Rows.callWith_type1 (thn (ha pos pins s σ H _ I h) fun us s1 ⟨vs, H1, I1, r1, q1⟩ => ?_) hs rfl)); refine hld fun g_ k_ => ?_; obtain ⟨a, e, ⟨xs, hq⟩, q⟩ := q1; refine k_ ?_; subst e; obtain ⟨u, rfl, rx⟩ := vals1 r1
  cases rx
  refine hld fun g_ k_ => ?_; obtain ⟨its, rv, pl, hz⟩ := I1.list hq; refine k_ ?_; refine call_enumerate_list pl.isList fun h1 he hit hsz hk => wpAny_pyIter_enum he ?_; have I2 : Inv X pins σ H1 { s1 with heap := h1 } := I1.kept (t' := s1.toks) hk
  refine ⟨s1.heap.objs.size + 1, [s1.heap.objs.size + 1, s1.heap.objs.size], _, Ite X.K a, H1, rfl, I2, turn_enum a _ _ (Nat.succ_ne_self _), ⟨⟨.none, he⟩, hit⟩, fun b hb => ?_, q⟩
  rcases List.mem_cons.mp hb with e | hb
  . subst e
    exact I1.fpOk (Nat.le_succ _) (I1.hok.fresh (Nat.le_succ _))
  . have e : b = s1.heap.objs.size := by simpa using hb
    subst e; exact I1.fpOk (Nat.le_refl _) (I1.hok.fresh (Nat.le_refl _))
end
theorem for_enum {K : PySem.W.Frag} {a : Addr} {xs : List V} {g : TG} {tb : TS} {D : Ends} {σ : St} {H : Hp} (Pv : Nat -> St -> Hp -> Prop) (h0 : Pv 0 σ H) (hl : ∀ i σ H, i <= xs.length -> Pv i σ H -> SqL K H a xs)
    (hs : ∀ i x p σ H, xs[i]? = some x -> Pv i σ H -> H p = none -> g (.ref p) σ (upd H p (.tup [.int i, x])) fun σ2 H2 => tb { D with nx := Pv (i + 1), ct := Pv (i + 1), bk := D.nx } σ2 H2) (hd : ∀ σ H, Pv xs.length σ H -> D.nx σ H) :
    ∃ W : Nat -> Nat -> St -> Hp -> Prop, (∃ m, W 0 m σ H) /\ ∀ i m σ H, W i m σ H ->
      ((Ite K a).stop i H /\ D.nx σ H) \/ ((Ite K a).go i H /\ ∃ N : St -> Hp -> Prop, (∀ σ' H', N σ' H' -> ∃ m', m' < m /\ W (i + 1) m' σ' H') /\ ∀ x H', (Ite K a).yld i H x H' -> g x σ H' fun σ2 H2 => tb { D with nx := N, ct := N, bk := D.nx } σ2 H2) := by
  refine ⟨fun i m σ H => m = xs.length - i /\ i <= xs.length /\ Pv i σ H, ⟨xs.length, by simp, Nat.zero_le _, h0⟩, ?_⟩
  rintro i m σ H ⟨rfl, hi, p⟩
  have q := hl i σ H hi p
  by_cases hlt : i < xs.length
  . refine .inr ⟨⟨xs, xs[i], q, by simp [hlt]⟩, Pv (i + 1), fun σ' H' p' => ⟨xs.length - (i + 1), by omega, rfl, hlt, p'⟩, fun x H' y => ?_⟩
    refine hld fun g_ k_ => ?_; obtain ⟨pp, z, rfl, hn, rfl, hz⟩ := y; refine k_ ?_; exact hs i z pp σ H (hz xs q) p hn
  . have e : i = xs.length := by omega
    subst e; exact .inl ⟨⟨xs, q, Nat.le_refl _⟩, hd σ H p⟩
def Itv (K : PySem.W.Frag) (a : Addr) (n : Nat) : It :=
  ⟨fun i H => i < n /\ ∃ xs x, SqL K H a xs /\ xs[n - 1 - i]? = some x, fun i H x H' => H' = H /\ ∀ xs, SqL K H a xs -> xs[n - 1 - i]? = some x, fun i _ => i = n⟩
theorem turn_rev {P : Program} {w : World} {K : PySem.W.Frag} {tg : Expr} (a it : Addr) (n : Nat) : Turn P w K tg (Itv K a n) [it] it (fun i h => h.IsRevIter it a ((n : Int) - 1 - (i : Nat))) where
  mem := by simp
  obj := fun i h st b hb => by
    have e : b = it := by simpa using hb
    subst e; refine hld fun g_ k_ => ?_; obtain ⟨o, e, c, d⟩ := st; refine k_ ?_; exact ⟨o, e, fun v z => by rw [d] at z; cases z⟩
  keep := fun i h h' st k => st.at fun o e => k it (by simp) o e
  item := by
    intro X hP hw hK hc i pins s σ H E I hf st hg; subst hP hw hK; refine hld fun g_ k_ => ?_; obtain ⟨hlt, xs, x, hq, hx⟩ := hg; refine k_ ?_; refine hld fun g_ k_ => ?_; obtain ⟨its, rv, p, hz⟩ := I.list hq; refine k_ ?_; obtain ⟨u, hu, ru⟩ := rv.get hx; have e1 : (n : Int) - 1 - (i : Nat) = ((n - 1 - i : Nat) : Int) := by omega
    have st' := st; rw [e1] at st'; refine wpAny_pyNext_rev_item st' p.isList (x := u) (by simpa using hu) fun h' st2 sb => ?_
    have I1 : Inv X pins σ H { s with heap := h' } := I.turnedL (t' := s.toks) hf fun b o hb e => (sb.2 b (fun z => hb (by simp [z]))).trans e
    have e2 : ((n - 1 - i : Nat) : Int) - 1 = (n : Int) - 1 - ((i + 1 : Nat) : Int) := by omega
    rw [e2] at st2; refine hld fun g_ k_ => ?_; obtain ⟨o, e, c, d⟩ := id st2; refine k_ ?_; exact ⟨u, rfl, go_of (s := { s with heap := h' }) e c d (by decide) ⟨x, H, I1, ru, ⟨rfl, fun ys hy => by rw [I.list_inj hy hq]; exact hx⟩, st2, fun b hb => (hf b hb).1⟩⟩
  done := by
    intro X hP hw hK hc i pins s σ H E I hf st hg; subst hP hw hK; have e : i = n := hg; subst e; have e1 : (i : Int) - 1 - (i : Nat) = -1 := by omega
    rw [e1] at st; exact wpAny_pyNext_rev_end (I.ok.hd hc) st fun h' eb => ⟨rfl, I.turnedL (t' := s.toks) hf fun b o hb q => eb b o (fun z => hb (by simp [z])) q⟩
  self := fun _ _ _ _ _ st h => wpAny_pyIter_revIter st h
def iRev (K : PySem.W.Frag) (ta : TA) : TI := fun σ H R => ta σ H fun vs H1 => ∃ a xs, vs = [.ref a] /\ SqL K H1 a xs /\ R (Itv K a xs.length) H1
section
variable {X : Cx} {tg : Expr}
theorem pi_rev {l : Expr} {ta : TA} {p pos : Pos} (hg : Gl X "reversed") (hm : X.mg "reversed" = none) (ha : PA X [l] ta) (hs : starEach [l] X.env = [(false, eval l X.env)] := by rfl) :
    PI X tg (.Call (.Name "reversed" p) [l] [] pos) (iRev X.K ta) := by
  intro pins s σ H R I h; refine Call_ (ld_blt I hg hm boot_reversed (PyProof.Rows.callWith_type1 (thn (ha pos pins s σ H _ I h) fun us s1 ⟨vs, H1, I1, r1, q1⟩ => ?_) hs rfl)); refine hld fun g_ k_ => ?_; obtain ⟨a, xs, e, hq, q⟩ := q1; refine k_ ?_; subst e; obtain ⟨u, rfl, rx⟩ := vals1 r1
  cases rx
  refine hld fun g_ k_ => ?_; obtain ⟨its, rv, pl, hz⟩ := I1.list hq; refine k_ ?_; have hl := rv.length
  have st : (s1.heap.push (revObj a ((its.toArray.size : Int) - 1))).IsRevIter s1.heap.objs.size a ((xs.length : Int) - 1 - ((0 : Nat) : Int)) := by
    refine ⟨_, Heap.get?_push_size _ rfl, rfl, ?_⟩; have e : (xs.length : Int) - 1 - ((0 : Nat) : Int) = (its.toArray.size : Int) - 1 := by rw [List.size_toArray]; omega
    rw [e]
    rfl
  refine call_reversed_list pl.isList (wpAny_pyIter_revIter st ?_); have I2 : Inv X pins σ H1 { s1 with heap := s1.heap.push (revObj a ((its.toArray.size : Int) - 1)) } := I1.kept (t' := s1.toks) fun b o e => Heap.get?_push_of_some _ e
  refine ⟨s1.heap.objs.size, [s1.heap.objs.size], _, Itv X.K a xs.length, H1, rfl, I2, turn_rev a _ xs.length, st, fun b hb => ?_, q⟩; have e : b = s1.heap.objs.size := by simpa using hb
  subst e; exact I1.fpOk (Nat.le_refl _) (I1.hok.fresh (Nat.le_refl _))
end
theorem for_rev {K : PySem.W.Frag} {a : Addr} {xs : List V} {g : TG} {tb : TS} {D : Ends} {σ : St} {H : Hp} (Pv : Nat -> St -> Hp -> Prop) (h0 : Pv 0 σ H) (hl : ∀ i σ H, i <= xs.length -> Pv i σ H -> SqL K H a xs)
    (hs : ∀ i x σ H, i < xs.length -> xs[xs.length - 1 - i]? = some x -> Pv i σ H -> g x σ H fun σ2 H2 => tb { D with nx := Pv (i + 1), ct := Pv (i + 1), bk := D.nx } σ2 H2) (hd : ∀ σ H, Pv xs.length σ H -> D.nx σ H) :
    ∃ W : Nat -> Nat -> St -> Hp -> Prop, (∃ m, W 0 m σ H) /\ ∀ i m σ H, W i m σ H ->
      ((Itv K a xs.length).stop i H /\ D.nx σ H) \/ ((Itv K a xs.length).go i H /\ ∃ N : St -> Hp -> Prop, (∀ σ' H', N σ' H' -> ∃ m', m' < m /\ W (i + 1) m' σ' H') /\ ∀ x H', (Itv K a xs.length).yld i H x H' -> g x σ H' fun σ2 H2 => tb { D with nx := N, ct := N, bk := D.nx } σ2 H2) := by
  refine ⟨fun i m σ H => m = xs.length - i /\ i <= xs.length /\ Pv i σ H, ⟨xs.length, by simp, Nat.zero_le _, h0⟩, ?_⟩
  rintro i m σ H ⟨rfl, hi, p⟩
  have q := hl i σ H hi p
  by_cases hlt : i < xs.length
  . refine .inr ⟨⟨hlt, xs, xs[xs.length - 1 - i], q, List.getElem?_eq_getElem (by omega)⟩, Pv (i + 1), fun σ' H' p' => ⟨xs.length - (i + 1), by omega, rfl, hlt, p'⟩, fun x H' y => ?_⟩
    obtain ⟨e, y⟩ := y; subst e; exact hs i x σ _ hlt (y xs q) p
  . have e : i = xs.length := by omega
    subst e; exact .inl ⟨rfl, hd σ H p⟩
theorem strs_of : ∀ {ss : List Str} {us : List Value}, Vals (ss.map V.str) us -> StrsAre us ss
  | [], _, .nil => .nil
  | x :: ss, _, .cons r t => by
    obtain ⟨tk, rfl⟩ := r; exact .cons x tk (strs_of t)
theorem vals_strs : ∀ {ss : List Str} {us : List Value}, StrsAre us ss -> Vals (ss.map V.str) us
  | _, _, .nil => .nil
  | _, _, .cons x tk t => .cons ⟨tk, rfl⟩ (vals_strs t)
section
variable {X : Cx}
inductive rSortS (K : PySem.W.Frag) (xs : (List V)) (H : Hp) (Q : VK) : Prop
  | mk (p : _) (ss : _) (z1_ : xs = [.ref p]) (z2_ : SqL K H p (ss.map V.str)) (z3_ : ss.length < 64) (z4_ : ∀ l ss', ss'.Perm ss -> sortedS ss' = true -> H l = none -> Q (.ref l) (upd H l (.lst (ss'.map V.str)))) : rSortS K xs H Q
theorem call_sortedS : CallR X (.builtin "sorted") (rSortS X.K) := by
  intro pins s σ H xs us Q I r h; obtain ⟨p, ss, rfl, hq, h64, q⟩ := h; obtain ⟨u, rfl, rx⟩ := vals1 r
  cases rx
  refine hld fun g_ k_ => ?_; obtain ⟨its, rv, pl, hz⟩ := I.list hq; refine k_ ?_; have hl := rv.length; rw [List.length_map] at hl hz; refine sorted_strs pl.isList (strs_of rv) (by omega) fun out ss' h1 h2 h3 => ?_
  obtain ⟨e, he⟩ := sortedAll_at s.heap its out; refine ⟨.ref (s.heap.objs.size + 1), _, I.laid (t' := s.toks) (fun b o q => sortedAll_old q) (Nat.le_succ _) (o := .lst (ss'.map V.str)) ?_, rfl, q _ ss' h2 h3 (I.hok.fresh (Nat.le_succ _))⟩; refine ⟨?_, out.toList, e, vals_strs h1, ?_⟩
  . rw [List.length_map, h2.length_eq]; exact hz
  . rw [Array.toArray_toList]; exact he
inductive rJoin (K : PySem.W.Frag) (x : V) (vs : (List V)) (H : Hp) (Q : VK) : Prop
  | mk (z : _) (p : _) (ss : _) (z1_ : x = .str z) (z2_ : vs = [.ref p]) (z3_ : SqL K H p (ss.map V.str)) (z4_ : (ss.map (·.length)).sum + ss.length * z.length <= 16777216) (z5_ : Q (.str (Txt.join z ss)) H) : rJoin K x vs H Q
theorem mt_join : MtR X "str.join" (rJoin X.K) := by
  intro pins s σ H x vs v us Q I rx rv h; obtain ⟨z, p, ss, rfl, rfl, hq, hz, q⟩ := h; obtain ⟨t, rfl⟩ := rx; obtain ⟨u, rfl, ru⟩ := rv.one
  cases ru
  refine hld fun g_ k_ => ?_; obtain ⟨its, r, pl, _⟩ := I.list hq; refine k_ ?_; exact join_list pl.isList (strs_of (by simpa using r)) hz fun t' k => ⟨.str _, H, I.tok k, ⟨_, rfl⟩, q⟩
inductive rInsert (x : V) (vs : (List V)) (H : Hp) (Q : VK) : Prop
  | mk (l : _) (i : _) (y : _) (xs : _) (z1_ : x = .ref l) (z2_ : vs = [.int i, y]) (z3_ : H l = some (.lst xs)) (z4_ : 0 <= i) (z5_ : i <= (xs.length : Int)) (z6_ : xs.length < sizeLine) (z7_ : Q .non (upd H l (.lst (xs.take i.toNat ++ y :: xs.drop i.toNat)))) : rInsert x vs H Q
theorem mt_insert : MtR X "list.insert" rInsert := by
  intro pins s σ H x vs v us Q I rx rv h; obtain ⟨l, i, y, xs, rfl, rfl, hH, h0, h1, hz, q⟩ := h
  cases rx
  refine hld fun g_ k_ => ?_; obtain ⟨u, w', rfl, ⟨t, rfl⟩, rw'⟩ := rv.two; refine k_ ?_; refine hld fun g_ k_ => ?_; obtain ⟨z, its, n, r, hl, e⟩ := I.lstM hH; refine k_ ?_; have hn := line63
  refine call_meets F.slot_list_insert ⟨_, e, rfl⟩ F.entry_list_insert (F.args_list_insert_3 _ _ _)
    (AutoSeq1.list_insert_list_int_val_1 l its.toArray n i t w' (by rw [fitsIndex_both (by omega) (by omega)]; exact Bool.false_ne_true) (by rw [List.size_toArray]; omega)) ⟨e, ?_⟩
  refine ⟨.non, _, I.lset (its' := its.take i.toNat ++ w' :: its.drop i.toNat) hH e ?_ ((r.take i.toNat).append (.cons rw' (r.drop i.toNat))) ?_, rfl, q⟩
  . show (its.toArray.extract 0 (if i < 0 then (i + (its.toArray.size : Int)).toNat else min i.toNat its.toArray.size)).push w' ++ its.toArray.extract (if i < 0 then (i + (its.toArray.size : Int)).toNat else min i.toNat its.toArray.size) = _
    have em : (if i < 0 then (i + (its.toArray.size : Int)).toNat else min i.toNat its.toArray.size) = i.toNat := by
      rw [if_neg (by omega), List.size_toArray]
      omega
    rw [em, PySem.W.kl_ins_eq]
  . rw [List.length_append, List.length_cons, List.length_take, List.length_drop]
    omega
theorem eqV_self {x : V} (h : flatV x = true) : eqV x x = true := by
  cases x with
  | non => rfl
  | bl b => exact beq_self_eq_true b
  | int i => simp [eqV]
  | str y => simp [eqV]
  | byt b => exact absurd (show false = true from h) Bool.false_ne_true
  | flt b => exact absurd (show false = true from h) Bool.false_ne_true
  | ref a => exact absurd (show false = true from h) Bool.false_ne_true
  | ty n => exact absurd (show false = true from h) Bool.false_ne_true
inductive rIsi (K : PySem.W.Frag) (xs : (List V)) (H : Hp) (Q : VK) : Prop
  | mk (x : _) (T : _) (t : _) (b : _) (z1_ : xs = [x, .ty T]) (z2_ : TyOf K H x t) (z3_ : PySem.W.kitOne K t (.type T) = some b) (z4_ : Q (.bl b) H) : rIsi K xs H Q
theorem call_isi : CallR X (.builtin "isinstance") (rIsi X.K) := by
  intro pins s σ H xs us Q I r h; obtain ⟨x, T, t, b, rfl, ty, e, q⟩ := h; refine hld fun g_ k_ => ?_; obtain ⟨u, w', rfl, rx, rt⟩ := vals2 r; refine k_ ?_
  cases (show w' = Value.type T from rt)
  exact isinst_ok I rx ty e fun tk => ⟨.bl b, H, I.tok tk, rfl, q⟩
end
end L2
namespace L2
open PySem PySem.Spec PyProof.Rows
def compCx (X : Cx) (N' : List Str) (scope : Scope) (cl : List (Str × Addr)) (C : Addr) (s₀ : Shared) (H₀ : Hp) (fp : List Addr) : Cx where
  prog := X.prog
  w := X.w
  K := X.K
  mg := X.mg
  base := X.base
  A := X.A
  N := N'
  s₀ := s₀
  H₀ := H₀
  env := compEnvC scope cl C X.env
  outer := X.stack
  stack := X.stack
  ex := fp
  fn := fun _ => false
  calm := X.calm
  pn := []
  xe := fun _ _ => False
def outSt (js : List (Option Nat)) (σ : St) : St := js.map fun o => o.bind fun i => (σ[i]?).bind id
structure CompOk (X : Cx) (scope : Scope) (cl : List (Str × Addr)) (N' : List Str) (js : List (Option Nat)) : Prop where
  kind : scope.kind = .function
  nocell : ∀ y ∈ scope.names, y.2 ≠ .cell
  names : ∀ y ∈ scope.names, y.2 = .local -> scope.names.lookup y.1 = some .local
  len : js.length = N'.length
  clos : closureFor scope X.env = pure cl
  cells : ∀ x c, cl.lookup x = some c -> X.env.cells.lookup x = some c
  has : ∀ x, ((relabel scope X.env).names.lookup x = some .cell \/ (relabel scope X.env).names.lookup x = some .free) -> ∃ c, cl.lookup x = some c
  out : ∀ (j i : Nat), js[j]? = some (some i) -> ∃ x, N'[j]? = some x /\ X.N[i]? = some x /\ X.env.scope.names.lookup x = some .cell /\
    ((relabel scope X.env).names.lookup x = some .cell \/ (relabel scope X.env).names.lookup x = some .free)
def PIf (X : Cx) (ifs : List Expr) (t : TT) : Prop :=
  ∀ (pins : List (Addr × Obj)) (s : Shared) (σ : St) (H : Hp) (Q : Bool -> Hp -> Prop), Inv X pins σ H s -> t σ H Q ->
    wpAny (model X.prog X.w) X.A (forIn ifs true fun c r => if r = true then do let ok <- isTrue c X.env (eval c X.env); pure (ForInStep.yield ok) else pure (ForInStep.yield r)) (TP X pins σ Q) X.xe s
def tAlways : TT := fun _ H Q => Q true H
theorem pif_nil {X : Cx} : PIf X [] tAlways := fun _ _ _ H _ I h => wpAny_tests_nil ⟨H, I, h⟩
theorem pif_one {X : Cx} {c : Expr} {t : TT} (h : PT X c t) : PIf X [c] t := fun pins s σ H Q I q => wpAny_tests_one (h pins s σ H Q I q)
def CompW (J : It) (js : List (Option Nat)) (g : TG) (ti : TT) (te : TE) (σ : St) (H1 : Hp) (Q : VK) : Prop :=
  ∀ D, H1 D = none -> ∃ W : Nat -> Nat -> List V -> St -> Hp -> Prop, (∃ m, W 0 m [] (outSt js σ) (upd H1 D (.lst []))) /\ ∀ i m ys τ H, W i m ys τ H ->
    (J.stop i H /\ Q (.ref D) H) \/ (J.go i H /\ ∀ x H', J.yld i H x H' -> g x τ H' fun τ2 H2 => ti τ2 H2 fun b H3 =>
      if b = true then te τ2 H3 fun y H4 => H4 D = some (.lst ys) /\ ys.length < sizeLine /\ ∃ m', m' < m /\ W (i + 1) m' (ys ++ [y]) τ2 (upd H4 D (.lst (ys ++ [y])))
      else ∃ m', m' < m /\ W (i + 1) m' ys τ2 H3)
def tComp (wi : TI) (js : List (Option Nat)) (g : TG) (ti : TT) (te : TE) : TE := fun σ H Q => wi σ H fun J H1 => CompW J js g ti te σ H1 Q
section
variable {X : Cx} {elt tg iter : Expr} {ifs : List Expr} {scope : Scope} {cl : List (Str × Addr)} {N' : List Str} {js : List (Option Nat)} {pos : Pos} {g : TG} {ti : TT} {te : TE}
theorem thnE {α : Type} {t : Sem α} {Q Q' : α -> Shared -> Prop} {M : Model} {A : Around} {E : Value -> Shared -> Prop} {s : Shared} (h : wpAny M A t Q (fun _ _ => False) s) (hQ : ∀ a s, Q a s -> Q' a s) : wpAny M A t Q' E s := wpAny_mono h hQ fun _ _ x => x.elim
theorem comp_start {pins : List (Addr × Obj)} {σ : St} {H1 : Hp} {s₂ : Shared} {fp : List Addr} {C : Addr} {h₁ : Heap} {tk : Nat} (K : CompOk X scope cl N' js) (I : Inv X pins σ H1 s₂) (hf : ∀ b ∈ fp, FpOk X pins H1 b)
    (hfl : ∀ b ∈ fp, b < s₂.heap.objs.size) (hC : s₂.heap.objs.size < C) (old : ∀ b o, s₂.heap.get? b = some o -> h₁.get? b = some o) {m : Str -> Option Value} (hns : h₁.Ns C m)
    (acc : h₁.get? s₂.heap.objs.size = some { cls := .type "list", data := .seq ([] : List Value).toArray }) :
    Inv (compCx X N' scope cl C s₂ H1 fp) [] (outSt js σ) (upd H1 s₂.heap.objs.size (.lst [])) { s₂ with heap := h₁, toks := tk } := by
  have hD : H1 s₂.heap.objs.size = none := I.hok.fresh (Nat.le_refl _)
  have cellOld : ∀ x c, cl.lookup x = some c -> c < s₂.heap.objs.size := fun x c e => by
    refine hld fun g_ k_ => ?_; obtain ⟨v, o, ho, _⟩ := I.cell x c (K.cells x c e); refine k_ ?_; exact Heap.lt_size ho
  refine ⟨⟨I.ok.mod, K.kind, I.ok.glob, I.ok.blt, Nat.le_of_lt hC, fun x y c e1 e2 => I.ok.inj x y c (K.cells x c e1) (K.cells y c e2), fun x hx => K.has x hx, fun x c e => absurd (show false = true from e) Bool.false_ne_true, I.ok.hd, I.ok.frames, .inl rfl,
      fun b hb => ⟨Nat.ne_of_lt (Nat.lt_trans (hfl b hb) hC), fun x c e => (hf b hb).2.2.2.2.1 x c (K.cells x c e)⟩, I.bs, Nat.le_trans I.ok.bsz I.sz, fun b o e hb => ?_, fun b hb z => ?_, I.stack, I.stkFree⟩,
    rfl, I.bare, Un.laid old (Nat.le_refl _) hD, ⟨m, hns, fun j x v h1 h2 h3 => ?_⟩, fun x c e => ?_, ?_, fun x c e => ?_, fun p hp => absurd (show p ∈ ([] : List (Addr × Obj)) from hp) (by simp), I.hok.laid old (Nat.le_refl _) ⟨Nat.zero_le _, [], 0, .nil, acc⟩, ?_⟩
  . rcases (hf b hb).2.2.2.1 with z | z
    . exact I.ok.noex b o e z
    . exact absurd (Nat.lt_of_lt_of_le (Heap.lt_size (I.ok.bs b o e).1) z) (Nat.lt_irrefl _)
  . rcases List.mem_cons.mp (I.stkSub b z) with e | e
    . exact (hf b hb).2.1 e
    . exact (hf b hb).2.2.1 e
  . have h2' : (outSt js σ)[j]? = some (some v) := h2
    unfold outSt at h2'
    rw [List.getElem?_map] at h2'
    cases q : js[j]? with
    | none => rw [q] at h2'; cases h2'
    | some o =>
      rw [q] at h2'
      cases o with
      | none => cases h2'
      | some i =>
        refine hld fun g_ k_ => ?_; obtain ⟨x', e1, e2, e3, e4⟩ := K.out j i q; refine k_ ?_; have h1' : N'[j]? = some x := h1; rw [e1] at h1'; have e0 : x' = x := Option.some.inj h1'; subst e0
        have h5 : σ[i]? = some (some v) := by
          cases z : σ[i]? with
          | none =>
            have : (some ((σ[i]?).bind id) : Option (Option V)) = some (some v) := h2'; rw [z] at this; cases this
          | some o' =>
            have : (some ((σ[i]?).bind id) : Option (Option V)) = some (some v) := h2'; rw [z] at this
            cases o' with
            | none => cases this
            | some v' => exact congrArg some (Option.some.inj this)
        obtain ⟨m', hn', hl'⟩ := I.loc; obtain ⟨u, r, l⟩ := hl' i x' v e2 h5 (.inr (.inl e3)); refine ⟨u, r, .inr ⟨e4, ?_⟩⟩
        rcases l with ⟨hk, _⟩ | ⟨_, c, hc, o, ho, hd⟩
        . have : X.env.scope.names.lookup x' = some .local := hk
          rw [e3] at this
          cases this
        . obtain ⟨c', hc'⟩ := K.has x' e4
          have := K.cells x' c' hc'; rw [hc] at this
          cases this
          exact ⟨c, hc', o, old c o ho, hd⟩
  . obtain ⟨v, o, ho, hd⟩ := I.cell x c (K.cells x c e)
    exact ⟨v, o, old c o ho, hd⟩
  . show upd H1 s₂.heap.objs.size (.lst []) C = none
    rw [upd_ne (Nat.ne_of_gt hC)]; exact I.hok.fresh (Nat.le_of_lt hC)
  . rw [upd_ne (Nat.ne_of_lt (cellOld x c e))]
    exact I.freeC x c (K.cells x c e)
  . show (outSt js σ).length = N'.length
    unfold outSt
    rw [List.length_map]; exact K.len
theorem comp_block {pins : List (Addr × Obj)} {σ : St} {H1 : Hp} {s₂ : Shared} {it : Addr} {fp : List Addr} {tn : Nat -> Heap -> Prop} {J : It} {Q : VK} {RR : Value -> Addr -> Result -> Shared -> Prop} {E : Value -> Shared -> Prop}
    (K : CompOk X scope cl N' js) (hc : X.calm = true) (I : Inv X pins σ H1 s₂) (T : Turn X.prog X.w X.K tg J fp it tn) (st : tn 0 s₂.heap) (hf : ∀ b ∈ fp, FpOk X pins H1 b)
    (hg : ∀ C s₀ H₀ fp, PG (compCx X N' scope cl C s₀ H₀ fp) tg g) (hi : ∀ C s₀ H₀ fp, PIf (compCx X N' scope cl C s₀ H₀ fp) ifs ti) (he : ∀ C s₀ H₀ fp, PE (compCx X N' scope cl C s₀ H₀ fp) elt te)
    (hW : CompW J js g ti te σ H1 Q)
    (hRR : ∀ D C s' H', Inv X pins σ H' s' -> (∃ m, s'.heap.Ns C m) -> FpOk X pins H' C -> Q (.ref D) H' -> RR (.ref D) C (.ok .next) s') :
    wpAny (model X.prog X.w) X.A (newList []) (fun acc s₃ => wpAny (model X.prog X.w) X.A (newFunctionEnv scope X.env.globals cl [] X.env.qual none .none (some X.env)) (fun cenv s₄ =>
      codeAny (model X.prog X.w) X.A (.compStart (.ListComp elt [⟨tg, iter, ifs, 0⟩] scope pos) 0 (.ref it) acc { cenv with scope := relabel scope X.env }) (RR acc cenv.locals) s₄) E s₃) E s₂ := by
  refine wpAny_newObj_type (wpAny_newFunctionEnv K.nocell (by intro y hy; simp at hy) (fun h₁ hns₁ hsb₁ => ?_) K.kind)
  dsimp only at hns₁ hsb₁ ⊢
  generalize hH2 : s₂.heap.push { cls := .type "list", dict := none, data := .seq ([] : List Value).toArray } = H2 at hns₁ hsb₁ ⊢; have hC : H2.objs.size = s₂.heap.objs.size + 1 := by rw [<- hH2, Heap.size_push]
  have hlt : s₂.heap.objs.size < H2.objs.size := by rw [hC]; exact Nat.lt_succ_self _
  have below : ∀ b, b < s₂.heap.objs.size -> b ≠ H2.objs.size := fun b hb => Nat.ne_of_lt (Nat.lt_trans hb hlt); have old : ∀ b o, s₂.heap.get? b = some o -> h₁.get? b = some o := fun b o e => hsb₁.extBut b o (below b (Heap.lt_size e)) (Heap.get?_push_of_some _ (hH2 ▸ Heap.get?_push_of_some _ e)); have acc : h₁.get? s₂.heap.objs.size = some { cls := .type "list", data := .seq ([] : List Value).toArray } := hsb₁.extBut _ _ (Nat.ne_of_lt hlt) (Heap.get?_push_of_some _ (hH2 ▸ Heap.get?_push_size _ rfl))
  have hfl : ∀ b ∈ fp, b < s₂.heap.objs.size := fun b hb => by
    obtain ⟨o, q, _⟩ := T.obj 0 _ st b hb; exact Heap.lt_size q
  refine hld fun g_ k_ => ?_; obtain ⟨W, ⟨m0, w0⟩, turn⟩ := hW s₂.heap.objs.size (I.hok.fresh (Nat.le_refl _)); refine k_ ?_
  have stat : ∀ {H' : Hp}, (∀ b ∈ fp, H' b = none) -> ∀ b ∈ fp, FpOk (compCx X N' scope cl H2.objs.size s₂ H1 fp) [] H' b := fun hn b hb =>
    ⟨hn b hb, below b (hfl b hb), fun z => (List.mem_cons.mp (I.stkSub b z)).elim (hf b hb).2.1 (hf b hb).2.2.1, .inl hb, fun x c e => (hf b hb).2.2.2.2.1 x c (K.cells x c e), fun p hp => absurd (show p ∈ ([] : List (Addr × Obj)) from hp) (by simp)⟩
  have loop : ∀ s₃ : Shared, s₃ = { s₂ with heap := h₁, toks := s₂.toks + ([] : List (Str × Value)).length } ->
      codeAny (model X.prog X.w) X.A (.compLoop (.ListComp elt [⟨tg, iter, ifs, 0⟩] scope pos) 0 (.ref it) (.ref s₂.heap.objs.size) (compEnvC scope cl H2.objs.size X.env))
        (RR (.ref s₂.heap.objs.size) H2.objs.size) s₃ := by
    rintro s₃ rfl
    have I0 := comp_start (tk := s₂.toks + ([] : List (Str × Value)).length) K I hf hfl hlt old hns₁ acc
    refine codeAny_loop rfl (fun n s' => ∃ i ys τ H', Inv (compCx X N' scope cl H2.objs.size s₂ H1 fp) [] τ H' s' /\ tn i s'.heap /\ (∀ b ∈ fp, H' b = none) /\ W i n ys τ H') (fun n s' hI => ?_) m0
      ⟨0, [], outSt js σ, _, I0, T.keep _ _ _ st (fun b _ o e => old b o e), fun b hb => by rw [upd_ne (Nat.ne_of_lt (hfl b hb))]; exact (hf b hb).1, w0⟩
    refine hld fun g_ k_ => ?_; obtain ⟨i, ys, τ, H', I', st', fr', w'⟩ := hI; refine k_ ?_
    show wpAny _ X.A ((compTurn (.ListComp elt [⟨tg, iter, ifs, 0⟩] scope pos) 0 (.ref it) (.ref s₂.heap.objs.size) (compEnvC scope cl H2.objs.size X.env)).onRaise (fun x => do noteFrame x (compEnvC scope cl H2.objs.size X.env); theTreesLotGoes x)) _ _ s'
    refine wpAny_noted ?_; rw [compTurn_list]; refine wpAny_bind (wpAny_standAt (wpAny_bind ?_))
    rcases turn i n ys τ H' w' with ⟨stop, qn⟩ | ⟨go, step⟩
    . refine wpAny_mono (T.done (compCx X N' scope cl H2.objs.size s₂ H1 fp) rfl rfl rfl hc i [] s' τ H' _ I' (stat fr') st' stop) (fun r s4 hr => ?_) fun _ _ e => e
      obtain ⟨hr, I4⟩ := hr; subst hr; refine wpAny_pure ?_; have u : Un (frs X.stack) fp H1 H' s₂.heap s4.heap := I4.base; refine hRR _ _ s4 H' (I.call' (ch := fp) I4.os u I4.hok I4.bare fun b hb => ⟨(hf b hb).2.2.2.1, (hf b hb).2.1, (hf b hb).2.2.2.2.1, (hf b hb).2.2.2.2.2⟩) ?_ (I.fpOk (Nat.le_of_lt hlt) I4.free) qn; obtain ⟨m, hn, _⟩ := I4.loc; exact ⟨m, hn⟩
    . refine wpAny_mono (T.item (compCx X N' scope cl H2.objs.size s₂ H1 fp) rfl rfl rfl hc i [] s' τ H' _ I' (stat fr') st' go) (fun r s4 hr => ?_) fun _ _ e => e
      obtain ⟨u, hr, h4⟩ := hr; subst hr; refine wpAny_bind (wpAny_mono h4 (fun _ s5 h5 => ?_) fun _ _ e => e); refine hld fun g_ k_ => ?_; obtain ⟨x, H5, I5, r5, y5, st5, fr5⟩ := h5; refine k_ ?_; have I5' := I5.pinned (stat fr5) (T.obj _ _ st5)
      have again : ∀ {s7 : Shared} {τ7 : St} {H7 : Hp} {zs : List V} {m' : Nat}, m' < n -> Inv (compCx X N' scope cl H2.objs.size s₂ H1 fp) ([] ++ pinsAt fp s5.heap) τ7 H7 s7 -> W (i + 1) m' zs τ7 H7 ->
          ∃ m, m < n /\ ∃ i ys τ H', Inv (compCx X N' scope cl H2.objs.size s₂ H1 fp) [] τ H' s7 /\ tn i s7.heap /\ (∀ b ∈ fp, H' b = none) /\ W i m ys τ H' := fun {s7 τ7 H7 zs m'} hm I7 w7 => by
        refine ⟨m', hm, i + 1, zs, τ7, H7, I7.unpinned, T.keep _ _ _ st5 fun b hb o e => (I7.pin (b, o) (List.mem_append_right _ (List.mem_append_right _ (mem_pinsAt hb e)))).1, fun b hb => ?_, w7⟩; obtain ⟨o, e, d⟩ := T.obj _ _ st5 b hb; exact (I7.pin (b, o) (List.mem_append_right _ (List.mem_append_right _ (mem_pinsAt hb e)))).2.1
      refine wpAny_bind (thnE (hg _ _ _ _ _ s5 τ H5 x u _ I5' r5 (step x H5 y5)) fun _ s6 h6 => ?_); refine hld fun g_ k_ => ?_; obtain ⟨σ6, H6, I6, q6⟩ := h6; refine k_ ?_; refine wpAny_bind (thnE (hi _ _ _ _ _ s6 σ6 H6 _ I6 q6) fun ok s7 h7 => ?_); obtain ⟨H7, I7, q7⟩ := h7
      cases ok with
      | false =>
        rw [if_neg Bool.false_ne_true] at q7; obtain ⟨m', hm, w7⟩ := q7; exact wpAny_pure ⟨rfl, again hm I7 w7⟩
      | true =>
        rw [if_pos rfl] at q7; refine wpAny_bind (wpAny_bind (thnE (he _ _ _ _ _ s7 σ6 H7 _ I7 q7) fun yv s8 h8 => ?_)); refine hld fun g_ k_ => ?_; obtain ⟨y, H8, I8, r8, e8, z8, m', hm, w8⟩ := h8; refine k_ ?_; refine wpAny_bind (thnE (mt_append (X := compCx X N' scope cl H2.objs.size s₂ H1 fp) _ s8 σ6 H8 (.ref s₂.heap.objs.size) [y] (.ref s₂.heap.objs.size) [yv] (fun v H9 => H9 = upd H8 s₂.heap.objs.size (.lst (ys ++ [y]))) I8 rfl (.cons r8 .nil) ⟨_, ys, y, rfl, rfl, e8, z8, rfl⟩) fun _ s9 h9 => ?_); refine hld fun g_ k_ => ?_; obtain ⟨_, H9, I9, _, e9⟩ := h9; refine k_ ?_; subst e9; exact wpAny_pure (wpAny_pure ⟨rfl, again hm I9 w8⟩)
  exact codeAny_compStart_list (loop _ rfl) (T.self _ 0 _ _ _ (T.keep _ _ _ st fun b _ o e => old b o e) (loop _ rfl))
variable {wi : TI}
theorem comp_free {pins : List (Addr × Obj)} {σ : St} {H' : Hp} {s' : Shared} {C : Addr} {h' : Heap} (I : Inv X pins σ H' s') (hC : FpOk X pins H' C) (hs : Heap.SameBut C s'.heap h') : Inv X pins σ H' { s' with heap := h' } :=
  I.turnedL (t' := s'.toks) (fp := [C]) (fun b hb => by have e : b = C := by simpa using hb
                                                        subst e; exact hC) fun b o hb e => (hs.2 b fun z => hb (by simp [z])).trans e
theorem pe_comp (K : CompOk X scope cl N' js) (hc : X.calm = true) (hi : PI X tg iter wi) (hg : ∀ C s₀ H₀ fp, PG (compCx X N' scope cl C s₀ H₀ fp) tg g) (hif : ∀ C s₀ H₀ fp, PIf (compCx X N' scope cl C s₀ H₀ fp) ifs ti)
    (he : ∀ C s₀ H₀ fp, PE (compCx X N' scope cl C s₀ H₀ fp) elt te) (hs : ∀ x, foldedSetIterable iter X.env x = pure x := by intro _; rfl) :
    PE X (.ListComp elt [⟨tg, iter, ifs, 0⟩] scope pos) (tComp wi js g ti te) := by
  intro pins s σ H Q I h; rw [eval_ListComp]; refine wpAny_comprehension_free (use := none) rfl hs K.clos K.kind K.names (thn (hi pins s σ H _ I h) fun v s1 h1 => thn h1 fun itv s2 h2 => ?_); refine hld fun g_ k_ => ?_; obtain ⟨it, fp, tn, J, H2, e, I2, T, st2, f2, hW⟩ := h2; refine k_ ?_; subst e; refine comp_block (RR := fun acc C => compPost (model X.prog X.w) X.A X.xe none (EP X pins σ Q) acc C) K hc I2 T st2 f2 hg hif he hW ?_; intro D C s' H' I' hn hC q; obtain ⟨m, hm⟩ := hn; exact ⟨m, hm, fun h' hs' => ⟨.ref D, H', comp_free I' hC hs', rfl, q⟩⟩
theorem ps_setComp {i : Nat} {y : Str} {py spos : Pos} (hN : X.N.Nodup) (hi0 : X.N[i]? = some y) (hx : Loc X.env.scope y) (K : CompOk X scope cl N' js) (hc : X.calm = true) (hi : PI X tg iter wi) (hg : ∀ C s₀ H₀ fp, PG (compCx X N' scope cl C s₀ H₀ fp) tg g)
    (hif : ∀ C s₀ H₀ fp, PIf (compCx X N' scope cl C s₀ H₀ fp) ifs ti) (he : ∀ C s₀ H₀ fp, PE (compCx X N' scope cl C s₀ H₀ fp) elt te)
    (hsw : swapsWith (.ListComp elt [⟨tg, iter, ifs, 0⟩] scope pos) (some (.Name y py)) spos.line X.env = pure true := by rfl) (hs : ∀ x, foldedSetIterable iter X.env x = pure x := by intro _; rfl)
    (hf : X.fn y = true \/ X.env.scope.names.lookup y = some .local := by first | exact .inl rfl | exact .inr rfl | assumption) :
    PS X (.Assign [.Name y py] (.ListComp elt [⟨tg, iter, ifs, 0⟩] scope pos) spos) (tAsg (tComp wi js g ti te) (gName i)) := by
  intro pins s σ H D I h; rw [exec_Assign_Name_used _ _ _ _ hsw]; refine wpAny_bind (wpAny_standAt (wpAny_bind ?_))
  show wpAny _ X.A (do let _ <- comprehension (.ListComp elt [⟨tg, iter, ifs, 0⟩] scope pos) scope X.env _ (newList []) false (eval iter X.env) (some (assign (.Name y py) X.env))) _ _ s
  refine wpAny_bind (wpAny_mono (wpAny_comprehension_free (use := some (assign (.Name y py) X.env)) (Q := fun _ s' => SP X pins D .next s') rfl hs K.clos K.kind K.names
    (thn (hi pins s σ H _ I h) fun v s1 h1 => thn h1 fun itv s2 h2 => ?_)) (fun _ s' hq => wpAny_pure (wpAny_pure hq)) fun _ _ e => e)
  refine hld fun g_ k_ => ?_; obtain ⟨it, fp, tn, J, H2, e, I2, T, st2, f2, hW⟩ := h2; refine k_ ?_; subst e; refine comp_block (RR := fun acc C => compPost (model X.prog X.w) X.A X.xe (some (assign (.Name y py) X.env)) (fun _ s' => SP X pins D .next s') acc C) K hc I2 T st2 f2 hg hif he hW ?_; intro L C s' H' I' hn hC q; obtain ⟨m, hm⟩ := hn
  show wpAny _ X.A (assign (.Name y py) X.env (.ref L)) _ _ _
  refine wpAny_assign_Name (store_ok2 (v := .ref L) I' hN hi0 hx rfl (fun s'' I'' hch => ?_) hf); obtain ⟨a, hsb, ha⟩ := hch
  have hCa : C ≠ a := by
    rcases ha with e | e
    . rw [e]; exact hC.2.1
    . exact Ne.symm (hC.2.2.2.2.1 _ _ e)
  refine ⟨m, hm.sameBut hsb hCa, fun h' hs' => ⟨_, H', comp_free I'' ?_ hs', q⟩⟩; exact hC
end
section
variable {X : Cx} {N' : List Str} {scope : Scope} {cl : List (Str × Addr)} {C : Addr} {s₀ : Shared} {H₀ : Hp} {fp : List Addr} {pos : Pos}
theorem pg_tupC {es : List Expr} {k : Nat} {t : TGs} {n : Nat} (hc : X.calm = true) (h : PGs (compCx X N' scope cl C s₀ H₀ fp) es t)
    (hn : (assignEach es (compCx X N' scope cl C s₀ H₀ fp).env).length = n := by rfl) (hst : (assignEach es (compCx X N' scope cl C s₀ H₀ fp).env).findIdx? (·.1) = none := by rfl) : PG (compCx X N' scope cl C s₀ H₀ fp) (.Tuple es k pos) (gTup X.K n t) :=
  pg_tup (X := compCx X N' scope cl C s₀ H₀ fp) hc h hn hst
theorem ix_listC : IxR (compCx X N' scope cl C s₀ H₀ fp) (rIxL X.K) := ix_list
end
theorem CompOk.plain {X : Cx} {scope : Scope} {N' : List Str} {js : List (Option Nat)} (kind : scope.kind = .function) (loc : ∀ y ∈ scope.names, y.2 = .local) (names : ∀ y ∈ scope.names, scope.names.lookup y.1 = some .local) (len : js.length = N'.length) (no : ∀ o ∈ js, o = none) :
    CompOk X scope [] N' js where
  kind := kind
  nocell := fun y hy z => by rw [loc y hy] at z; cases z
  names := fun y hy _ => names y hy
  len := len
  clos := closureFor_none fun y hy z => by rw [loc y hy] at z; cases z
  cells := fun x c e => nomatch e
  has := fun x hx => by
    have all : ∀ (l : List (Str × NameKind)), (∀ y ∈ l, y.2 = .local) -> ∀ k, (l.map fun (n, k) => if (k == NameKind.free && X.env.scope.kind == .function && X.env.kindOf n == some .cell) then (n, NameKind.cell) else (n, k)).lookup x = some k -> k = .local := by
      intro l
      induction l with
      | nil => intro _ k h; cases h
      | cons y l ih =>
        intro hl k h; obtain ⟨n, kd⟩ := y; have e : kd = .local := hl (n, kd) List.mem_cons_self; subst e; have h' : List.lookup x ((n, NameKind.local) :: (l.map fun (n, k) => if (k == NameKind.free && X.env.scope.kind == .function && X.env.kindOf n == some .cell) then (n, NameKind.cell) else (n, k))) = some k := h
        rw [List.lookup_cons] at h'
        split at h'
        . exact (Option.some.inj h').symm
        . exact ih (fun y hy => hl y (List.mem_cons_of_mem _ hy)) k h'
    rcases hx with h | h
    . exact absurd (all _ loc _ h) (by decide)
    . exact absurd (all _ loc _ h) (by decide)
  out := fun j i e => by
    have := no _ (List.mem_of_getElem? e)
    cases this
theorem CompOk.free1 {X : Cx} {scope : Scope} {N' : List Str} {js : List (Option Nat)} {x : Str} {c : Addr} {nms : List (Str × NameKind)} (kind : scope.kind = .function) (nocell : ∀ y ∈ scope.names, y.2 ≠ .cell)
    (names : ∀ y ∈ scope.names, y.2 = .local -> scope.names.lookup y.1 = some .local) (len : js.length = N'.length) (clos : closureFor scope X.env = pure [(x, c)]) (cells : X.env.cells.lookup x = some c)
    (rl : (relabel scope X.env).names = nms) (only : ∀ p ∈ nms, (p.2 = .cell \/ p.2 = .free) -> p.1 = x)
    (out : ∀ (j i : Nat), js[j]? = some (some i) -> N'[j]? = some x /\ X.N[i]? = some x) (cell : X.env.scope.names.lookup x = some .cell) (seen : nms.lookup x = some .cell \/ nms.lookup x = some .free) : CompOk X scope [(x, c)] N' js where
  kind := kind
  nocell := nocell
  names := names
  len := len
  clos := clos
  cells := fun y c' h => by
    rw [List.lookup_cons] at h
    split at h
    . rename_i e
      have := eq_of_beq e; subst this
      cases h
      exact cells
    . cases h
  has := fun y hy => by
    rw [rl] at hy
    have e : y = x := by
      rcases hy with h | h
      . exact only _ (PySem.mem_of_lookup h) (.inl rfl)
      . exact only _ (PySem.mem_of_lookup h) (.inr rfl)
    subst e; exact ⟨c, by rw [List.lookup_cons, beq_self_eq_true]⟩
  out := fun j i h => ⟨x, (out j i h).1, (out j i h).2, cell, by rw [rl]; exact seen⟩
theorem comp_list {K : PySem.W.Frag} {a : Addr} {xs : List V} {js : List (Option Nat)} {g : TG} {te : TE} {σ : St} {H1 : Hp} {Q : VK} (Pv : Addr -> Nat -> List V -> St -> Hp -> Prop) (small : xs.length <= sizeLine)
    (h0 : ∀ D, H1 D = none -> Pv D 0 [] (outSt js σ) (upd H1 D (.lst []))) (hl : ∀ D i ys τ H, i <= xs.length -> Pv D i ys τ H -> SqL K H a xs)
    (hs : ∀ D i x ys τ H, xs[i]? = some x -> ys.length = i -> Pv D i ys τ H -> g x τ H fun τ2 H2 => te τ2 H2 fun y H4 => H4 D = some (.lst ys) /\ Pv D (i + 1) (ys ++ [y]) τ2 (upd H4 D (.lst (ys ++ [y]))))
    (hd : ∀ D ys τ H, ys.length = xs.length -> Pv D xs.length ys τ H -> Q (.ref D) H) (mg : ∀ x τ H Q Q', (∀ τ H, Q τ H -> Q' τ H) -> g x τ H Q -> g x τ H Q') (me : ∀ τ H Q Q', (∀ v H, Q v H -> Q' v H) -> te τ H Q -> te τ H Q') :
    CompW (Itl K a) js g tAlways te σ H1 Q := by
  intro D hD; refine ⟨fun i m ys τ H => m = xs.length - i /\ i <= xs.length /\ ys.length = i /\ Pv D i ys τ H, ⟨xs.length, by simp, Nat.zero_le _, rfl, h0 D hD⟩, ?_⟩
  rintro i m ys τ H p_
  refine hld fun g_ k_ => ?_; obtain ⟨rfl, hi, hy, p⟩ := p_; refine k_ ?_; have q := hl D i ys τ H hi p
  by_cases hlt : i < xs.length
  . refine .inr ⟨⟨xs, xs[i], q, by simp [hlt]⟩, fun x H' y => ?_⟩
    obtain ⟨e, y⟩ := y; subst e; refine mg _ _ _ _ _ (fun τ2 H2 z => ?_) (hs D i x ys τ _ (y xs q) hy p)
    unfold tAlways
    dsimp only
    rw [if_pos rfl]; refine me _ _ _ _ (fun v H4 z4 => ?_) z; obtain ⟨z1, z2⟩ := z4; exact ⟨z1, by omega, xs.length - (i + 1), by omega, rfl, hlt, by rw [List.length_append, List.length_singleton]; omega, z2⟩
  . have e : i = xs.length := by omega
    subst e; exact .inl ⟨⟨xs, q, Nat.le_refl _⟩, hd D ys τ H hy p⟩
end L2
namespace KM
open PySem PySem.Spec PyProof.Rows
def mkS (t : Tx) : Str := ⟨t.toArray⟩
def unS (x : Str) : Tx := x.cps.toList
theorem mk_un (x : Str) : mkS (unS x) = x := by unfold mkS unS; rw [Array.toArray_toList]
theorem un_mk (t : Tx) : unS (mkS t) = t := rfl
theorem mkS_len (t : Tx) : (mkS t).length = t.length := by unfold mkS Str.length; simp
theorem mkS_inj {a b : Tx} (h : mkS a = mkS b) : a = b := by rw [<- un_mk a, <- un_mk b, h]
theorem mkS_app (a b : Tx) : mkS a ++ mkS b = mkS (a ++ b) := by
  show Str.append (mkS a) (mkS b) = _
  unfold Str.append mkS
  simp
theorem lp : (Str.ofString "(") = mkS [40] := by decide +kernel
theorem rp : (Str.ofString ")") = mkS [41] := by decide +kernel
theorem ep : (Str.ofString "") = mkS [] := by decide +kernel
theorem join_flat : ∀ ts : List Tx, Str.join (mkS []) (ts.map mkS) = mkS ts.flatten
  | [] => rfl
  | [t] => by
    show mkS t = mkS [t].flatten
    simp
  | t :: u :: r => by
    have ih := join_flat (u :: r)
    show mkS t ++ mkS [] ++ Str.join (mkS []) ((u :: r).map mkS) = _
    rw [ih, mkS_app, mkS_app, List.append_nil]
    rfl
theorem rising_pw : ∀ (ss : List Str) (p : Str), risingS p ss = true -> (p :: ss).Pairwise fun a b => unS a <= unS b
  | [], p, _ => by simp
  | x :: r, p, h => by
    have h' : (!ltCps x.cps.toList p.cps.toList && risingS x r) = true := h; rw [Bool.and_eq_true] at h'; obtain ⟨h1, h2⟩ := h'; have ih := rising_pw r x h2
    have hx : unS p <= unS x := by
      rw [ltCps_eq] at h1; intro z; rw [decide_eq_true (show x.cps.toList < p.cps.toList from z)] at h1
      cases h1
    refine List.pairwise_cons.mpr ⟨fun y hy => ?_, ih⟩
    rcases List.mem_cons.mp hy with rfl | hy
    . exact hx
    . exact List.le_trans hx ((List.pairwise_cons.mp ih).1 y hy)
theorem sorted_pw (ss : List Str) (h : sortedS ss = true) : ss.Pairwise fun a b => unS a <= unS b := by
  cases ss with
  | nil => exact List.Pairwise.nil
  | cons x r => exact rising_pw r x h
theorem sorted_is {ss : List Str} {ts : List Tx} (hp : ss.Perm (ts.map mkS)) (hs : sortedS ss = true) : ss = (srt ts).map mkS := by
  have e : ss = (ss.map unS).map mkS := by
    rw [List.map_map]; have : (mkS ∘ unS) = id := by funext x; exact mk_un x
    rw [this, List.map_id]
  have p : (ss.map unS).Perm ts := by
    have := hp.map unS; rw [List.map_map] at this; have z : (unS ∘ mkS) = id := by funext x; exact un_mk x
    rw [z, List.map_id] at this; exact this
  rw [e, srt_of p (List.pairwise_map.mpr (sorted_pw ss hs))]
theorem join_is (ts : List Tx) : Txt.join (Str.ofString "") (ts.map mkS) = mkS ts.flatten := by
  show Builtin.Str.glued _ _ = _
  rw [StrLaws.glued_eq_join, ep, join_flat]
theorem brk_is (t : Tx) : (Str.ofString "(" ++ mkS t) ++ Str.ofString ")" = mkS (brk t) := by
  rw [lp, rp, mkS_app, mkS_app]
  rfl
end KM
namespace KD
open PySem L2 KM PyProof.Rows
def vO : Option Nat -> V
  | none => .non
  | some k => .int (k : Int)
def vN (k : Nat) : V := .int (k : Int)
def vT (t : Tx) : V := .str (mkS t)
theorem same_new {H : Hp} {p : Addr} (h : H p = none) (o : HO) : Same H (upd H p o) := fun b u q => by rw [upd_ne (ne_of_none q h)]; exact q
theorem same_upd {H H' : Hp} {p : Addr} (e : Same H H') (h : H p = none) (o : HO) : Same H (upd H' p o) := fun b u q => by rw [upd_ne (ne_of_none q h)]; exact e b u q
theorem small {n : Nat} (h : n <= 1000000) : n <= sizeLine := Nat.le_trans h (by decide)
theorem smallt {n : Nat} (h : n <= 1000000) : n < sizeLine := Nat.lt_of_le_of_lt h (by decide)
theorem at_map {α : Type} {f : α -> V} {xs : List α} {i : Nat} {x : α} (h : xs[i]? = some x) : atI (xs.map f) (i : Int) = some (f x) := atI_nat (by rw [List.getElem?_map, h]; rfl)
theorem get_map {α : Type} {f : α -> V} {xs : List α} {i : Nat} {x : α} (h : xs[i]? = some x) : (xs.map f)[i]? = some (f x) := by rw [List.getElem?_map, h]; rfl
theorem of_map {α : Type} {f : α -> V} {xs : List α} {i : Nat} {y : V} (h : (xs.map f)[i]? = some y) : ∃ x, xs[i]? = some x /\ y = f x := by
  rw [List.getElem?_map] at h
  cases q : xs[i]? with
  | none => rw [q] at h; cases h
  | some x => rw [q] at h; exact ⟨x, rfl, (Option.some.inj h).symm⟩
theorem ixN_nat {n k : Nat} (h : k < n) : ixN n (k : Int) = some k := by
  unfold ixN
  rw [if_pos (by omega), if_pos (by omega)]
  rfl
theorem len_vT (ts : List Tx) : ((ts.map mkS).map (·.length)).sum = (ts.map (·.length)).sum := by
  rw [List.map_map]; exact congrArg List.sum (List.map_congr_left fun t _ => mkS_len t)
theorem vT_map (ts : List Tx) : (ts.map mkS).map V.str = ts.map vT := by rw [List.map_map]; rfl
structure Kit (P : Program) (w : World) (K : PySem.W.Frag) (mg : Str -> Option Value) (base : Heap) (k : Nat) (x : Str) (ps : List Str) (sp : Sp) (f : Addr) (fd : FuncData) : Prop where
  ok : FnOk P w K mg base CX0 k f fd ps sp
  bd : Binds K fd ps []
  kp : PySem.W.keepIn K (.ref f) = true
  mg : mg x = some (.ref f)
inductive spOver (vs : (List V)) (H : Hp) (Q : VK) (e_ : XK) : Prop
  | mk (p : Addr) (ts : List Tx) (z1_ : vs = [.ref p]) (z2_ : H p = some (.lst (ts.map vT))) (z3_ : ts.length < 64) (z4_ : (ts.map (·.length)).sum <= 100000) (z5_ : ∀ H', Same H H' -> Q (vT (brk (srt ts).flatten)) H') : spOver vs H Q e_
structure UnderAt (H : Hp) (u : Addr) (as : List Addr) (ab : Ab) : Prop where
  top : H u = some (.lst (as.map V.ref))
  len : as.length = ab.length
  each : ∀ (i : Nat) (c : Addr), as[i]? = some c -> H c = some (.lst ((kids ab i).map vN))
inductive spUpto (K : PySem.W.Frag) (vs : (List V)) (H : Hp) (Q : VK) (e_ : XK) : Prop
  | mk (a : Addr) (xs : List V) (s g : Int) (z1_ : vs = [.ref a, .int s, .int g]) (z2_ : SqL K H a xs) (z3_ : xs.length <= 63) (z4_ : ∀ H', Same H H' -> Q (.int s) H') : spUpto K vs H Q e_
inductive spWhole (vs : (List V)) (H : Hp) (Q : VK) (e_ : XK) : Prop
  | mk (i : Int) (z1_ : vs = [.int i]) (z2_ : ∀ H', Same H H' -> Q (.bl true) H') : spWhole vs H Q e_
inductive spRooted (vs : (List V)) (H : Hp) (Q : VK) (e_ : XK) : Prop
  | mk (a : Addr) (ns : List Int) (z1_ : vs = [.ref a]) (z2_ : H a = some (.lst (ns.map V.int))) (z3_ : ns.length <= 200) (z4_ : ∀ (p : Addr) (ab : Ab) (H' : Hp), Same H H' -> Up ab -> ab.length <= ns.length + 1 -> H p = none -> H' p = some (.lst (ab.map vO)) -> Q (.ref p) H') : spRooted vs H Q e_
inductive spText (k : Nat) (vs : (List V)) (H : Hp) (Q : VK) (e_ : XK) : Prop
  | mk (a : Addr) (ab : Ab) (r knot : Nat) (rk : Nat -> Nat) (z1_ : vs = [.ref a, vN knot]) (z2_ : H a = some (.lst (ab.map vO))) (z3_ : Tree ab r rk) (z4_ : knot < ab.length) (z5_ : ab.length < 64) (z6_ : ab.length <= rk knot + k) (z7_ : ∀ H', Same H H' -> Q (vT (fm ab knot)) H') : spText k vs H Q e_
inductive spLaw (K : PySem.W.Frag) (vs : (List V)) (H : Hp) (Q : VK) (e_ : XK) : Prop
  | mk (a : Addr) (ns : List Int) (z1_ : vs = [.ref a]) (z2_ : SqL K H a (ns.map V.int)) (z3_ : ns.length <= 63) (z4_ : ∀ H', Q (.bl true) H') : spLaw K vs H Q e_
end KD
namespace L2
open PySem PySem.Spec PyProof.Rows
end L2
namespace L2
open PySem PySem.Spec PyProof.Rows
section
variable {P : Program} {w : World} {H H' : Hp} {h h' h0 h1 h2 : Heap} {a : Addr} {o : HO} {l : List Env}
theorem ObjOk.ex (x : ObjOk P w H h a o) : ∃ ob, h.get? a = some ob := by
  cases o with
  | lst xs => obtain ⟨_, _, _, _, e⟩ := x; exact ⟨_, e⟩
  | tup xs => obtain ⟨_, _, _, ob, e, _⟩ := x; exact ⟨ob, e⟩
  | dK kvs => obtain ⟨_, _, _, _, ob, _, _, e, _⟩ := x; exact ⟨ob, e⟩
  | dT kvs => obtain ⟨_, _, _, _, ob, _, _, e, _⟩ := x; exact ⟨ob, e⟩
  | set S n => obtain ⟨ob, _, _, _, e, _⟩ := x; exact ⟨ob, e⟩
  | ins C dx fs => obtain ⟨_, _, _, e, _⟩ := x; exact ⟨_, e⟩
  | own y => exact x
  | xd fs => obtain ⟨_, ⟨ob, _, _, e, _⟩, _⟩ := x; exact ⟨ob, e⟩
  | rng lo hi => obtain ⟨_, _, _, e⟩ := x; exact ⟨_, e⟩
  | frz ob u => obtain ⟨e, _⟩ := x; exact ⟨ob, e⟩
  | tbl ps => exact ⟨_, x⟩
  | met f y => exact ⟨_, x⟩
  | ext φ => obtain ⟨_, z, _⟩ := x; exact z
theorem un_fly (u : Un (frs l) [] H H' h0 h1) (hok : HOk P w H' h1) (frf : ∀ b ∈ frs l, H' b = none)
    (ka : ∀ b ob, h1.get? b = some ob -> b ∉ frs l -> ((∃ o0, h0.get? b = some o0) \/ H' b ≠ none) -> h2.get? b = some ob)
    (kb : ∀ b ∈ frs l, ∀ ob, h1.get? b = some ob -> ∃ sl, h2.get? b = some { ob with slots := sl }) : Un (frs l) [] H H' h0 h2 /\ HOk P w H' h2 := by
  refine ⟨⟨fun b ob e n hb hx => ka b ob (u.keep b ob e n hb hx) hb (.inl ⟨_, e⟩), fun b ob e n hb hx => ?_, u.free, fun b ob e hx => ?_, u.tups, u.frzs, u.tbls⟩, fun b u' e => ?_⟩
  . obtain ⟨sl, e1⟩ := u.slot b ob e n hb hx
    obtain ⟨sl2, e2⟩ := kb b hb _ e1; exact ⟨sl2, e2⟩
  . obtain ⟨o1, e1⟩ := u.there b ob e hx
    by_cases hb : b ∈ frs l
    . obtain ⟨sl, e2⟩ := kb b hb _ e1
      exact ⟨_, e2⟩
    . exact ⟨_, ka b o1 e1 hb (.inl ⟨_, e⟩)⟩
  . refine (hok b u' e).stay (fun c v hc q => ?_) (fun _ q => q) fun _ _ q => q
    have hn : H' c ≠ none := by
      rcases hc with z | z
      . rw [z, e]; exact fun y => nomatch y
      . rw [z]; exact fun y => nomatch y
    exact ka c v q (fun hb => hn (frf c hb)) (.inr hn)
end
def CXe (P : Program) (w : World) : CXT := fun outer H s E e s' => ∃ (a : Addr) (cls a0 : Value) (H' : Hp) (B : Heap), e = .ref a /\ s'.os = s.os /\ AllBare s'.gens /\ Un (frs outer) [] H H' s.heap s'.heap /\ HOk P w H' s'.heap /\
  (∀ b ∈ frs outer, H' b = none) /\ Heap.FlyingW B outer a cls a0 s'.heap /\ (∀ b ob, s'.heap.get? b = some ob -> b ∉ frs outer -> ((∃ o0, s.heap.get? b = some o0) \/ H' b ≠ none) -> B.get? b = some ob) /\ E cls none H'
def XRaise (X : Cx) (E : XK) : Prop := ∀ (pins : List (Addr × Obj)) (σ : St) (H : Hp) (s : Shared) (h2 : Heap) (e : Addr) (cls : Value) (vs : List Value), Inv X pins σ H s -> Heap.MadeExcOf s.heap h2 e cls vs -> E cls none H -> X.xe (.ref e) { s with heap := h2 }
section
variable {P : Program} {w : World} {K : PySem.W.Frag} {mg : Str -> Option Value} {base : Heap} {N : List Str} {qual : Str} {scope : Scope} {f : Addr} {cd : Value} {A : Around} {outer : List Env} {s : Shared} {H : Hp} {E : XK}
theorem Inv.outFree {X : Cx} {pins : List (Addr × Obj)} {σ : St} {H1 : Hp} {s1 : Shared} (I : Inv X pins σ H1 s1) : ∀ b ∈ X.fs, H1 b = none := fun b hb => by
  refine hld fun g_ k_ => ?_; obtain ⟨_, ob, ho, _⟩ := I.ok.funs.mem hb; refine k_ ?_; exact I.base.free b ob ho (I.ok.frf b hb) fun z => I.ok.exfs b z hb
theorem xraise : XRaise (cxOf (CXe P w) P w K mg base N qual scope f cd A outer s H E) E := by
  intro pins σ H1 s1 h2 e cls vs I hx hE; have hst : (cxOf (CXe P w) P w K mg base N qual scope f cd A outer s H E).stack = envOfC qual scope s.heap.objs.size f cd :: outer := rfl; have hin : ∀ env ∈ (envOfC qual scope s.heap.objs.size f cd :: outer), ∀ b, env.frame = some b -> b ∈ frs (envOfC qual scope s.heap.objs.size f cd :: outer) := fun env he b hb => List.mem_filterMap.mpr ⟨env, he, hb⟩; have hfu : s1.heap.FunFrames base (envOfC qual scope s.heap.objs.size f cd :: outer) := I.stack; have hL : ∀ b ∈ frs (envOfC qual scope s.heap.objs.size f cd :: outer), b = s.heap.objs.size \/ b ∈ frs outer := fun b hb => List.mem_cons.mp (I.stkSub b hb); have frf : ∀ b ∈ frs outer, H1 b = none := I.outFree; have hfree : ∀ b ∈ frs (envOfC qual scope s.heap.objs.size f cd :: outer), H1 b = none := I.stkFree; refine wpAny_leaves_madeW (base := PySem.W.hideAll s1.heap (frs (envOfC qual scope s.heap.objs.size f cd :: outer))) (L := s.heap.objs.size) (h := s1.heap) I.ok.frames rfl (fun b ob q => PySem.W.of_hideAll _ q) (PySem.W.funFrames_hide hfu hin) hx fun h' t x1 x2 x3 x4 => ?_; have hun : Un (frs outer) [] H H1 s.heap s1.heap := I.base
  have ka : ∀ b ob, s1.heap.get? b = some ob -> b ∉ frs outer -> ((∃ o0, s.heap.get? b = some o0) \/ H1 b ≠ none) -> (PySem.W.hideAll s1.heap (frs (envOfC qual scope s.heap.objs.size f cd :: outer))).get? b = some ob := by
    intro b ob q hb hc; refine PySem.W.hideAll_get _ q fun hm => ?_
    rcases hL b hm with z | z
    . rcases hc with ⟨o0, h0⟩ | hn
      . rw [z] at h0
        exact absurd (Heap.lt_size h0) (Nat.lt_irrefl _)
      . exact hn (hfree b hm)
    . exact hb z
  have z := un_fly hun I.hok frf (fun b ob q hb hc => x1.1 b ob (ka b ob q hb hc)) (fun b hb ob q => by
    refine hld fun g_ k_ => ?_; obtain ⟨_, o', ho', hnf⟩ := I.funs.mem hb; refine k_ ?_; rw [q] at ho'
    cases ho'
    exact x4 b ob (hx.keeps b ob q) hnf)
  refine ⟨e, cls, .ref t, H1, _, rfl, I.os, I.bare, z.1, z.2, frf, x1, fun b ob q hb hc => ?_, hE⟩
  have hs1 : ∃ o1, s1.heap.get? b = some o1 := by
    rcases hc with ⟨o0, h0⟩ | hn
    . exact I.base.there b o0 h0 (fun z => absurd (show b ∈ ([] : List Addr) from z) (by simp))
    . cases q1 : H1 b with
      | none => exact absurd q1 hn
      | some u' => exact (I.hok b u' q1).ex
  obtain ⟨o1, q1⟩ := hs1; have h3 := ka b o1 q1 hb hc; have h4 := x1.1 b o1 h3; rw [q] at h4
  cases h4
  exact h3
theorem passX : Passes (CXe P w) (cxOf (CXe P w) P w K mg base N qual scope f cd A outer s H E) E := by
  intro pins σ H1 s1 e s' I hcx; refine hld fun g_ k_ => ?_; obtain ⟨a, cls, a0, H', B, rfl, os, bare, un, hok, frf, hfl, cov, hE⟩ := hcx; refine k_ ?_; have I' : Inv (cxOf (CXe P w) P w K mg base N qual scope f cd A outer s H E) pins σ H' s' := I.call' (ch := []) os un hok bare (fun b z => absurd z (by simp))
  have hfree : ∀ b ∈ frs (envOfC qual scope s.heap.objs.size f cd :: outer), H' b = none := I'.stkFree; have hL : ∀ b ∈ frs (envOfC qual scope s.heap.objs.size f cd :: outer), b = s.heap.objs.size \/ b ∈ frs outer := fun b hb => List.mem_cons.mp (I'.stkSub b hb); refine wpAny_leaves_onW (L := s.heap.objs.size) I.ok.frames rfl hfl fun h' x1 x2 => ?_; have hun : Un (frs outer) [] H H' s.heap s'.heap := I'.base
  have old : ∀ b, b ∉ frs outer -> ((∃ o0, s.heap.get? b = some o0) \/ H' b ≠ none) -> b ∉ frs (envOfC qual scope s.heap.objs.size f cd :: outer) /\ ((∃ o0, s1.heap.get? b = some o0) \/ H' b ≠ none) := by
    intro b hb hc; refine ⟨fun hm => ?_, ?_⟩
    . rcases hL b hm with z | z
      . rcases hc with ⟨o0, h0⟩ | hn
        . rw [z] at h0
          exact absurd (Heap.lt_size h0) (Nat.lt_irrefl _)
        . exact hn (hfree b hm)
      . exact hb z
    . rcases hc with ⟨o0, h0⟩ | hn
      . exact .inl (I.base.there b o0 h0 (fun z => absurd (show b ∈ ([] : List Addr) from z) (by simp)))
      . exact .inr hn
  have ka : ∀ b ob, s'.heap.get? b = some ob -> b ∉ frs outer -> ((∃ o0, s.heap.get? b = some o0) \/ H' b ≠ none) -> B.get? b = some ob := fun b ob q hb hc => cov b ob q (old b hb hc).1 (old b hb hc).2
  have z := un_fly hun hok I'.outFree (fun b ob q hb hc => x1.1 b ob (ka b ob q hb hc)) (fun b hb ob q => by
    refine hld fun g_ k_ => ?_; obtain ⟨_, o', ho', hnf⟩ := I'.funs.mem hb; refine k_ ?_; rw [q] at ho'
    cases ho'
    exact x2 b ob q hnf)
  refine ⟨a, cls, a0, H', B, rfl, I'.os, bare, z.1, z.2, I'.outFree, x1, fun b ob q hb hc => ?_, hE⟩
  have hs1 : ∃ o1, s'.heap.get? b = some o1 := by
    rcases hc with ⟨o0, h0⟩ | hn
    . exact I'.base.there b o0 h0 (fun z => absurd (show b ∈ ([] : List Addr) from z) (by simp))
    . cases q1 : H' b with
      | none => exact absurd q1 hn
      | some u' => exact (hok b u' q1).ex
  obtain ⟨o1, q1⟩ := hs1; have h3 := ka b o1 q1 hb hc; have h4 := x1.1 b o1 h3; rw [q] at h4
  cases h4
  exact h3
theorem ownX : PassesOwn (model (cxOf (CXe P w) P w K mg base N qual scope f cd A outer s H E).prog (cxOf (CXe P w) P w K mg base N qual scope f cd A outer s H E).w) (cxOf (CXe P w) P w K mg base N qual scope f cd A outer s H E).A
    (cxOf (CXe P w) P w K mg base N qual scope f cd A outer s H E).env (cxOf (CXe P w) P w K mg base N qual scope f cd A outer s H E).xe := PassesOwn.leaving
theorem Fun.okX {x : Str} {st : Stmt} {fd : FuncData} {ps : List Str} {k : Nat} {sp : Sp} (F : Fun K x qual st f fd) (S : FnScope N ps (defScope st)) (len : ∀ vs H Q E, sp vs H Q E -> vs.length = ps.length)
    (hbody : ∀ (cdv : Value) (A : Around) (outer : List Env) (s : Shared) (H : Hp) (vs : List V) (Q : VK) (E : XK), Room k (A.deeper (envOfC qual (defScope st) s.heap.objs.size f cdv)) -> sp vs H Q E ->
      ∃ t, PSs (cxOf (CXe P w) P w K mg base N qual (defScope st) f cdv A outer s H E) (defBody st) t /\ t { nx := fun _ H' => Q .non H', rt := Q } (start N vs) H) : FnOk P w K mg base (CXe P w) (k + 1) f fd ps sp := by
  refine hld fun g_ k_ => ?_; obtain ⟨oc, od, kV, doc, pm, an, cdv, ct, osl, rfl, lk, hcd⟩ := F.ex; refine k_ ?_; exact fn_of lk hcd S len fun A outer s H vs Q E hr hsp => hbody cdv A outer s H vs Q E hr hsp
end
end L2
namespace L2
open PySem PySem.Spec PyProof.Rows PySem.Builtin PySem.Builtin.ObjectAttr PySem.Builtin.Getset_descriptor
abbrev veMro : List Value := [.type "ValueError", .type "Exception", .type "BaseException", .type "object"]
structure XC (K : PySem.W.Frag) (C : Addr) : Prop where
  ex : PySem.W.excIn K C veMro "ValueError.__new__" = true
  ga : PySem.W.findIn K (.ref C) "__getattribute__" = some (some (.builtin "BaseException.__getattribute__"))
  gn : PySem.W.findIn K (.ref C) "__getattr__" = some none
  dc : PySem.W.hasDictIn K C = true
  ca : PySem.W.findIn K (.ref C) "__class__" = some (some (.builtin "object.__class__"))
  cg : PySem.W.specialIn K (.builtin "object.__class__") "__get__" = some (some (.builtin "getset_descriptor.__get__"))
  ct : PySem.W.takesIn K (.builtin "object.__class__") = some true
  mo : PySem.W.mroIn K C (.type "object") = some true
  mb : PySem.W.mroIn K C (.type "BaseException") = some true
section
variable {prog : Program} {w : World} {A : Around} {E : Value -> Shared -> Prop} {s : Shared} {K : PySem.W.Frag} {x C : Addr} {ox : Obj}
theorem XC.cls (c : XC K C) : ∃ cd, PySem.W.clsIn K C = some cd := by
  obtain ⟨cd, h, _⟩ := PySem.W.any_some c.dc; exact ⟨cd, h⟩
def XAt (h : Heap) (x C : Addr) : Prop := ∃ o, h.get? x = some o /\ o.cls = .ref C
theorem XAt.type {M : Model} {h : Heap} (I : XAt h x C) : PySem.W.Looks M h (typeOf (.ref x)) (.ref C) := by
  obtain ⟨o, e, q⟩ := I; rw [<- q]; exact (PySem.W.Looks.ld e).andThen .now
theorem XC.find {M : Model} {h : Heap} (c : XC K C) (X : K.In h) : PySem.W.Looks M h (Builtin.ObjectAttr.find (.ref x) (.ref C) "__class__") (.bind (.builtin "getset_descriptor.__get__") (.builtin "object.__class__")) := by
  have l1 := PySem.W.looks_findIn (M := M) X c.ca; have l2 := PySem.W.looks_specialIn (M := M) X c.cg; have l3 := PySem.W.looks_takesIn (M := M) X c.ct; refine l1.andThen (l2.andThen ?_); exact (show PySem.W.Looks M h (Builtin.ObjectAttr.dataDescriptor? (some (.builtin "object.__class__")) (some (.builtin "getset_descriptor.__get__"))) (some (.builtin "getset_descriptor.__get__", .builtin "object.__class__")) from l3.andThen .now).andThen (PySem.W.Looks.tag .now)
theorem xc_get {R : Result -> Shared -> Prop} {tp : Value} (c : XC K C) (X : K.In s.heap) (I : XAt s.heap x C) (h : R (.ok (.ret (.ref C))) s) :
    codeAny (model prog w) A (.call (.builtin "getset_descriptor.__get__") ⟨[.builtin "object.__class__", .ref x, tp], []⟩) R s := by
  refine hld fun g_ k_ => ?_; obtain ⟨hh, g, dr, t, os⟩ := s; refine k_ ?_; have L0 := I.type (M := model prog w); have L1 := PySem.W.looks_mroIn (M := model prog w) X c.mo; refine codeAny_call_builtin PySem.W.KF.slot_gs.plain PySem.W.KF.entry_gs (PySem.W.KF.slot_gs.check _ _ _ _ _ _ _ _ PySem.W.KF.type_class (PySem.W.KF.args_gs _ _ _) ?_)
  unfold Builtin.«getset_descriptor.__get__» descrGet
  rw [PySem.W.dga_obj]; refine wpAny_bind (wpAny_pure ?_)
  unfold descrGetter descrCheckInstance descrNameAndClass isInstance
  simp only [PySem.W.KF.owner_class]
  repeat lk
  refine ⟨Code.quiet_builtin _ (by decide +kernel), codeAny_builtin PySem.W.KF.entry_class ?_⟩
  unfold Builtin.«object.__class__» shownTypeOf
  repeat lk
  exact h
theorem xc_entry (c : XC K C) {tk : Tok} {Q : Fin -> Shared -> Prop} (X : K.In s.heap) (I : XAt s.heap x C) (h : Q (.done (.ret (.ref C))) s) :
    wpAny (model prog w) A (Builtin.«object.__getattribute__» ⟨[.ref x, .str "__class__" tk], []⟩) Q E s := by
  refine hld fun g_ k_ => ?_; obtain ⟨hh, g, d, t, os⟩ := s; refine k_ ?_; have L0 := I.type (M := model prog w); have L1 := c.find (x := x) (M := model prog w) X; refine wpAny_bind (wpAny_pure ?_); refine wpAny_bind (wpAny_pure (wpAny_bind (L0.at (wpAny_bind (L1.at ?_)))))
  show wpAny _ _ (Builtin.ObjectAttr.bindTo (.builtin "getset_descriptor.__get__") (.builtin "object.__class__") (.ref x) (.ref C)) _ _ _
  unfold Builtin.ObjectAttr.bindTo
  refine wpAny_bind (wpAny_holding (wpAny_call (xc_get c X I ?_))); exact wpAny_pure h
theorem xc_check (c : XC K C) {M : Model} {nameV : Value} {Q : Unit -> Shared -> Prop} (X : K.In s.heap) (I : XAt s.heap x C) (h : Q () s) :
    wpAny M A (checkBuiltinCall "BaseException.__getattribute__" ⟨[.ref x, nameV], []⟩) Q E s := by
  have hk : builtinKind "BaseException.__getattribute__" = some .slot := by decide +kernel
  have hsplit : splitId "BaseException.__getattribute__" = some ("BaseException", "__getattribute__") := by decide +kernel
  have ha := F.args_bexc_ga (.ref x) nameV; refine hld fun g_ k_ => ?_; obtain ⟨hh, g, d, t, os⟩ := s; refine k_ ?_; have L0 := I.type (M := M); have L1 := PySem.W.looks_mroIn (M := M) X c.mb
  simp only [checkBuiltinCall, hk, hsplit]
  refine wpAny_bind ?_
  unfold isInstance
  refine wpAny_bind (L0.at (L1.at ?_))
  dsimp only
  repeat (any_goals (first | assumption | wp_step))
  all_goals exact h
theorem xc_class (c : XC K C) {Q : Option Value -> Shared -> Prop} (X : K.In s.heap) (I : XAt s.heap x C) (h : Q (some (.ref C)) { s with toks := s.toks + 1 }) :
    wpAny (model prog w) A (getAttr? (.ref x) "__class__") Q E s := by
  refine hld fun g_ k_ => ?_; obtain ⟨hh, g, d, t, os⟩ := s; refine k_ ?_; have L0 := I.type (M := model prog w); have L1 := PySem.W.looks_findIn (M := model prog w) X c.ga; have L2 := PySem.W.looks_findIn (M := model prog w) X c.gn
  unfold getAttr? getAttrBy? getAttrBy
  refine wpAny_bind (wpAny_mkText (wpAny_bind (wpAny_attempt (wpAny_holding (wpAny_bind (L0.at (wpAny_bind (L1.at ?_))))))))
  show wpAny _ _ (if (true && false) = true then _ else getAttrByItsOwn (.ref x) _ (.ref C) (.builtin "BaseException.__getattribute__") false false) _ _ _
  rw [if_neg (by decide)]
  unfold getAttrByItsOwn
  refine wpAny_bind (L2.at ?_); refine wpAny_bind (wpAny_attempt (wpAny_holding ?_))
  show wpAny _ _ (boundAndCalled (.builtin "BaseException.__getattribute__") (.ref x) _) _ _ _
  unfold boundAndCalled
  refine wpAny_bind (wpAny_of_eq (PySem.F.attr_ValueError.ga.bind (.ref x)) ?_); refine wpAny_call (codeAny_call_builtin PySem.F.attr_ValueError.ga.plain F.entry_bexc_ga (xc_check (s := ⟨hh, g, d, t + 1, os⟩) c X I (xc_entry (s := ⟨hh, g, d, t + 1, os⟩) c X I ?_))); exact PySem.W.handed_on rfl (wpAny_pure h)
theorem xc_kit (c : XC K C) : PySem.W.KitX K (.ref x) (.ref C) (fun h => XAt h x C) where
  ty := fun _ _ _ I => I.type
  it := fun _ _ X _ => by
    obtain ⟨cd, hc⟩ := c.cls
    unfold PySem.W.clsIn at hc
    split at hc
    . rename_i ho
      intro A' Q' E' s' k q
      unfold isType loadHead
      exact wpAny_bind (wpAny_loadPart (k _ _ (X _ _ ho)) (wpAny_pure q))
    . cases hc
  ne := fun h tp dd its n sl X htp => by
    obtain ⟨cd, hc⟩ := c.cls; refine Bool.eq_false_iff.mpr fun q => ?_; obtain rfl : C = tp := Value.ref.inj (beq_iff_eq.mp q)
    unfold PySem.W.clsIn at hc
    split at hc
    . rename_i ho
      cases (X _ _ ho).symm.trans htp
    . cases hc
  ca := fun X I k => xc_class c X I k
end
end L2
namespace L2
open PySem PySem.Spec PyProof.Rows
section
variable {X : Cx} {t : TA} {E : XK} {x : Str} {C : Addr}
theorem XC.obj {K : PySem.W.Frag} {h : Heap} (c : XC K C) (Y : K.In h) : ∃ bm N nm q bs hdct sn sub ab col dd k0 k1 k2 k3 k5 mN, h.get? C = some (excClassObj nm q C N bs bm hdct sn sub ab col dd k0 k1 k2 k3 k5 "ValueError.__new__") /\ h.Ns N mN /\ mN "__init__" = none /\ OwnTail h veMro bm := by
  have q := c.ex
  unfold PySem.W.excIn at q
  split at q
  . rename_i dd cd sl ho
    split at q
    . rename_i C' bm k0 k1 k2 k3 n k5 hm hs
      simp only [Bool.and_eq_true, beq_iff_eq, Bool.not_eq_true'] at q
      refine hld fun g_ k_ => ?_; obtain ⟨⟨⟨⟨⟨e1, e2⟩, hdel⟩, ht⟩, hok⟩, hni⟩ := q; refine k_ ?_; subst e1; subst e2; refine hld fun g_ k_ => ?_; obtain ⟨nm, bs, mro, ns, qn, hd, sn, sub, ab, col, del⟩ := cd; refine k_ ?_
      dsimp only at hm hdel hok hni
      subst hm; subst hdel; obtain ⟨l⟩ := sl
      dsimp only at hs
      subst hs; exact ⟨bm, ns, nm, qn, bs, hd, sn, sub, ab, col, dd, k0, k1, k2, k3, k5, _, Y _ _ ho, .of_isNs (PySem.W.isNs_of_in Y hok), PySem.W.nsMap_none_of_in Y hok hni, PySem.W.tail_of_in Y ht⟩
    . cases q
  . cases q
def tRaise (C : Addr) (E : XK) (t : TA) : TS := fun _ σ H => t σ H fun vs H1 => vs.length <= sizeLine /\ E (.ref C) none H1
theorem ps_raise {e : Expr} {es : List Expr} {np cpos pos : Pos} (c : XC X.K C) (hc : X.calm = true) (hx : XRaise X E) (hg : Gl X x) (hm : X.mg x = some (.ref C)) (ha : PA X (e :: es) t)
    (hd : (x == ("__debug__" : Str)) = false := by decide) (he : starEach (e :: es) X.env = (false, eval e X.env) :: starEach es X.env := by rfl) (hpl : (backTo cpos (starEach (e :: es) X.env)).any (·.1) = false := by rfl) :
    PS X (.Raise (some (.Call (.Name x np) (e :: es) [] cpos)) none pos) (tRaise C E t) := by
  intro pins s σ H D I h; obtain ⟨bm, N, nm, q, bs, hdct, sn, sub, ab, col, dd, k0, k1, k2, k3, k5, mN, hC, hN, hni, T⟩ := c.obj (h := X.base) I.ok.mod.kin; refine wpAny_Raise_call_subT (C := C) (nm := nm) (q := q) (N := N) (bs := bs) (bm := bm) (hdct := hdct) (sn := sn) (sub := sub) (ab := ab) (col := col) (dd := dd) (k0 := k0) (k1 := k1) (k2 := k2) (k3 := k3) (k5 := k5) (mN := mN) PySem.F.excBase_ValueError (T.hasType rfl) (I.ok.hd hc) hpl hni (ld_glob I hg hm ⟨rfl, ?_⟩ hd); have hp := ha cpos pins s σ H _ I h; rw [he] at hp ⊢; refine Calls.evalArgs_plain (thn hp fun us s1 ⟨vs, H1, I1, r, hl, q1⟩ => ?_); exact ⟨rfl, by rw [<- r.length]; exact hl, I1.bk _ _ hC, hN.keeps I1.bk, T.keeps I1.bk, fun h' e' hx' => hx pins σ H1 s1 h' e' (.ref C) us I1 hx' q1⟩
end
structure Fly (X : Cx) (pins : List (Addr × Obj)) (σ : St) (H : Hp) (s : Shared) (H' : Hp) (a : Addr) (cls : Value) (B : Heap) (s' : Shared) : Prop where
  inv : Inv X pins σ H s
  os : s'.os = s.os
  bare : AllBare s'.gens
  un : Un (frs X.stack) [] H H' s.heap s'.heap
  hok : HOk X.prog X.w H' s'.heap
  fl : ∃ a0, Heap.FlyingW B X.stack a cls a0 s'.heap
  cov : ∀ b ob, s'.heap.get? b = some ob -> b ∉ frs X.stack -> ((∃ o0, s.heap.get? b = some o0) \/ H' b ≠ none) -> B.get? b = some ob
section
variable {X : Cx} {pins : List (Addr × Obj)} {σ : St} {H H' : Hp} {s s' : Shared} {a : Addr} {cls : Value} {B h2 : Heap} {E : XK}
theorem Fly.now (F : Fly X pins σ H s H' a cls B s') : Inv X pins σ H' s' := F.inv.call' (ch := []) F.os F.un F.hok F.bare fun b z => absurd z (by simp)
theorem Fly.there (F : Fly X pins σ H s H' a cls B s') {b : Addr} (h : (∃ o0, s.heap.get? b = some o0) \/ H' b ≠ none) : ∃ o1, s'.heap.get? b = some o1 := by
  rcases h with ⟨o0, h0⟩ | hn
  . exact F.un.there b o0 h0 (fun z => absurd (show b ∈ ([] : List Addr) from z) (by simp))
  . cases q : H' b with
    | none => exact absurd q hn
    | some u => exact (F.hok b u q).ex
theorem Fly.turn (F : Fly X pins σ H s H' a cls B s') {a0 : Value} (fl : Heap.FlyingW B X.stack a cls a0 h2) (sm : s'.heap.UpToSlots h2) : Fly X pins σ H s H' a cls B { s' with heap := h2 } := by
  have ka : ∀ b ob, s'.heap.get? b = some ob -> b ∉ frs X.stack -> ((∃ o0, s.heap.get? b = some o0) \/ H' b ≠ none) -> h2.get? b = some ob := fun b ob q hb hc => fl.1 b ob (F.cov b ob q hb hc)
  have z := un_fly F.un F.hok F.now.stkFree ka (fun b hb ob q => by
    refine hld fun g_ k_ => ?_; obtain ⟨_, o', ho', hnf⟩ := F.now.stack.mem hb; refine k_ ?_; rw [q] at ho'
    cases ho'
    exact sm b ob q hnf)
  refine ⟨F.inv, F.os, F.bare, z.1, z.2, ⟨a0, fl⟩, fun b ob q hb hc => ?_⟩; obtain ⟨o1, q1⟩ := F.there hc; have h3 := F.cov b o1 q1 hb hc; have h4 := fl.1 b o1 h3; have h5 : h2.get? b = some ob := q; rw [h5] at h4
  cases h4
  exact h3
theorem Fly.of {e : Value} (I : Inv X pins σ H s) (h : CXe X.prog X.w X.stack H s E e s') : ∃ a cls H' B, e = .ref a /\ Fly X pins σ H s H' a cls B s' /\ E cls none H' := by
  obtain ⟨a, cls, a0, H', B, e1, os, bare, un, hok, frf, hfl, cov, hE⟩ := h; exact ⟨a, cls, H', B, e1, ⟨I, os, bare, un, hok, ⟨a0, hfl⟩, cov⟩, hE⟩
theorem Fly.new (F : Fly X pins σ H s H' a cls B s') : s.heap.get? a = none /\ H' a = none := by
  refine hld fun g_ k_ => ?_; obtain ⟨a0, f1, f2, f3, oe, vs, T, oT, ts, he, hc, hd, _⟩ := F.fl; refine k_ ?_
  have nf : a ∉ frs X.stack := fun hm => by
    refine hld fun g_ k_ => ?_; obtain ⟨_, o', ho', hnf⟩ := F.now.stack.mem hm; refine k_ ?_; rw [he] at ho'
    cases ho'
    exact hnf _ hd
  have key : ¬ ((∃ o0, s.heap.get? a = some o0) \/ H' a ≠ none) := fun hc => by
    have := F.cov a oe he nf hc; rw [f2] at this
    cases this
  constructor
  . cases q : s.heap.get? a with
    | none => rfl
    | some o => exact absurd (.inl ⟨o, q⟩) key
  . cases q : H' a with
    | none => rfl
    | some u => exact absurd (.inr (by rw [q]; exact fun z => nomatch z)) key
abbrev errO (a C : Addr) : HO := .ext fun h => XAt h a C
theorem Fly.held {C : Addr} (F : Fly X pins σ H s H' a (.ref C) B s') : Inv X pins σ (upd H' a (errO a C)) s' := by
  obtain ⟨n1, n2⟩ := F.new; refine hld fun g_ k_ => ?_; obtain ⟨a0, f1, f2, f3, oe, vs, T, oT, ts, he, hc, hd, _⟩ := F.fl; refine k_ ?_; have hn : ∀ b ob, s.heap.get? b = some ob -> b ≠ a := fun b ob q z => by rw [z, n1] at q; cases q
  have hu : ∀ b, b ≠ a -> upd H' a (errO a C) b = H' b := fun b hb => by unfold upd; rw [if_neg hb]
  refine F.inv.call' (ch := []) F.os ⟨F.un.keep, F.un.slot, fun b ob q hb hx => ?_, F.un.there, ?_, ?_, ?_⟩ (fun b u q => ?_) F.bare fun b z => absurd z (by simp)
  . rw [hu b (hn b ob q)]; exact F.un.free b ob q hb hx
  . intro b xs q
    have e := F.un.tups b xs q; rw [hu b (fun z => by rw [z, n2] at e; cases e)]; exact e
  . intro b ob u q
    have e := F.un.frzs b ob u q; rw [hu b (fun z => by rw [z, n2] at e; cases e)]; exact e
  . intro b ps q
    obtain ⟨m, e⟩ := F.un.tbls b ps q; exact ⟨m, by rw [hu b (fun z => by rw [z, n2] at e; cases e)]; exact e⟩
  . by_cases hb : b = a
    . subst hb
      unfold upd at q
      rw [if_pos rfl] at q
      cases q
      exact ⟨⟨oe, he, hc.1⟩, ⟨oe, he⟩, fun h1 h2 ⟨o, e1, e2⟩ k => ⟨o, k o e1, e2⟩⟩
    . rw [hu b hb] at q
      have hs : ∀ c o, H' c = some o -> upd H' a (errO a C) c = some o := fun c o e => by rw [hu c (fun z => by rw [z, n2] at e; cases e)]; exact e
      exact (F.hok b u q).stay (fun c v hc q => q) (fun c q => by first | exact hs _ _ q | exact q) (fun _ _ q => by first | exact hs _ _ q | exact q)
end
end L2
namespace L2
open PySem PySem.Spec PyProof.Rows
abbrev RX := Value -> Hp -> Prop
abbrev TEx := St -> Hp -> VK -> RX -> Prop
abbrev RS := Value -> St -> Hp -> Prop
abbrev TSx := Ends -> RS -> St -> Hp -> Prop
abbrev TH := Ends -> RS
inductive XP (X : Cx) (pins : List (Addr × Obj)) (σ : St) (R : RX) (x : Value) (s' : Shared) : Prop
  | mk (a : Addr) (cls : Value) (H : Hp) (s : Shared) (H' : Hp) (B : Heap) (z1_ : x = .ref a) (z2_ : Fly X pins σ H s H' a cls B s') (z3_ : R cls H') : XP X pins σ R x s'
def XPs (X : Cx) (pins : List (Addr × Obj)) (R : RS) (x : Value) (s' : Shared) : Prop := ∃ σ', XP X pins σ' (fun cls H => R cls σ' H) x s'
def PEx (X : Cx) (e : Expr) (t : TEx) : Prop :=
  ∀ (pins : List (Addr × Obj)) (s : Shared) (σ : St) (H : Hp) (Q : VK) (R : RX), Inv X pins σ H s -> t σ H Q R -> wpAny (model X.prog X.w) X.A (eval e X.env) (EP X pins σ Q) (XP X pins σ R) s
def PSx (X : Cx) (st : Stmt) (t : TSx) : Prop :=
  ∀ (pins : List (Addr × Obj)) (s : Shared) (σ : St) (H : Hp) (D : Ends) (R : RS), Inv X pins σ H s -> t D R σ H -> wpAny (model X.prog X.w) X.A (exec st X.env) (SP X pins D) (XPs X pins R) s
def PSsx (X : Cx) (st : List Stmt) (t : TSx) : Prop :=
  ∀ (pins : List (Addr × Obj)) (s : Shared) (σ : St) (H : Hp) (D : Ends) (R : RS), Inv X pins σ H s -> t D R σ H -> wpAny (model X.prog X.w) X.A (execs st X.env) (SP X pins D) (XPs X pins R) s
def PH (X : Cx) (hs : List ExceptHandler) (t : TH) : Prop :=
  ∀ (pins : List (Addr × Obj)) (σ : St) (H : Hp) (s : Shared) (H' : Hp) (a : Addr) (cls : Value) (B : Heap) (s' : Shared) (D : Ends), Fly X pins σ H s H' a cls B s' -> t D cls σ H' ->
    wpAny (model X.prog X.w) X.A (handleBy (.ref a) X.env hs) (SP X pins D) X.xe s'
section
variable {X : Cx} {k : Nat} {f C : Addr} {fd : FuncData} {ps : List Str} {sp : Sp} {dvs : List V} {ds : List Value} {x : Str} {p pos : Pos} {e : Expr} {es : List Expr} {t : TA} {te : TEx}
theorem psx_ret (he : PEx X e te) : PSx X (.Return (some e) pos) fun D R σ H => te σ H D.rt fun cls H1 => R cls σ H1 := by
  intro pins s σ H D R I h; exact wpAny_Return_some (wpAny_mono (he pins s σ H _ _ I h) (fun v s1 ⟨x, H1, I1, r1, q1⟩ => ⟨x, σ, H1, I1, r1, q1⟩) fun _ _ z => ⟨σ, z⟩)
theorem psx_set {i : Nat} {pos' : Pos} (hN : X.N.Nodup) (hi : X.N[i]? = some x) (hx : Loc X.env.scope x) (he : PEx X e te) (hs : swapsWith e (some (.Name x pos')) pos.line X.env = pure false := by rfl) (hf : X.fn x = true \/ X.env.scope.names.lookup x = some .local := by first | exact .inl rfl | exact .inr rfl | assumption) :
    PSx X (.Assign [.Name x pos'] e pos) fun D R σ H => te σ H (fun v H1 => D.nx (σ.set i (some v)) H1) fun cls H1 => R cls σ H1 := by
  intro pins s σ H D R I h; refine wpAny_Assign_Name (wpAny_mono (he pins s σ H _ _ I h) (fun v s1 ⟨y, H1, I1, r1, q1⟩ => ?_) fun _ _ z => ⟨σ, z⟩) hs; exact store_ok I1 hN hi hx r1 (fun s2 I2 => ⟨_, H1, I2, q1⟩) hf
theorem psx_one {st : Stmt} {t : TSx} (h : PSx X st t) : PSsx X [st] t := by
  intro pins s σ H D R I hw; refine wpAny_execs_cons (thn (h pins s σ H D R I hw) fun f s1 q => ?_)
  cases f with
  | next => exact wpAny_execs_nil q
  | ret v => exact q
  | brk => exact q
  | cont => exact q
theorem psx_cons {st : Stmt} {sts : List Stmt} {t u : TSx} (h : PSx X st t) (h2 : PSsx X sts u) : PSsx X (st :: sts) fun D R σ H => t { D with nx := fun σ' H' => u D R σ' H' } R σ H := by
  intro pins s σ H D R I hw; refine wpAny_execs_cons (thn (h pins s σ H _ R I hw) fun f s1 q => ?_)
  cases f with
  | next =>
    refine hld fun g_ k_ => ?_; obtain ⟨σ', H', I', q⟩ := q; refine k_ ?_; exact h2 pins s1 σ' H' D R I' q
  | ret v => exact q
  | brk => exact q
  | cont => exact q
end
abbrev Cx.suite (X : Cx) (a : Addr) : Cx := { X with A := X.A.mark (some (.ref a)), calm := false, xe := fun _ _ => False }
section
variable {X : Cx} {pins : List (Addr × Obj)} {σ : St} {H : Hp} {s : Shared} {a : Addr}
theorem Cx.Ok.suite (ok : X.Ok) (a : Addr) : (X.suite a).Ok :=
  ⟨ok.mod, ok.kind, ok.glob, ok.blt, ok.above, ok.inj, ok.has, ok.cab, fun z => Bool.noConfusion z, ok.frames, ok.stk, ok.exf, ok.bs, ok.bsz, ok.noex, ok.exfs, ok.funs, ok.frf⟩
theorem Inv.suite (I : Inv X pins σ H s) (a : Addr) : Inv (X.suite a) pins σ H s := ⟨I.ok.suite a, I.os, I.bare, I.base, I.loc, I.cell, I.free, I.freeC, I.pin, I.hok, I.len⟩
theorem Inv.unsuite (ok : X.Ok) (I : Inv (X.suite a) pins σ H s) : Inv X pins σ H s := ⟨ok, I.os, I.bare, I.base, I.loc, I.cell, I.free, I.freeC, I.pin, I.hok, I.len⟩
theorem SP.unsuite {D : Ends} {f : Flow} {s' : Shared} (ok : X.Ok) (h : SP (X.suite a) pins D f s') : SP X pins D f s' := by
  cases f with
  | next => obtain ⟨σ', H', I, q⟩ := h; exact ⟨σ', H', I.unsuite ok, q⟩
  | brk => obtain ⟨σ', H', I, q⟩ := h; exact ⟨σ', H', I.unsuite ok, q⟩
  | cont => obtain ⟨σ', H', I, q⟩ := h; exact ⟨σ', H', I.unsuite ok, q⟩
  | ret u => obtain ⟨v, σ', H', I, r, q⟩ := h; exact ⟨v, σ', H', I.unsuite ok, r, q⟩
theorem goes_ok {M : Model} {A : Around} {E : Value -> Shared -> Prop} {i : Nat} {x : Str} {pos : Pos} {Q : Unit -> Shared -> Prop} (I : Inv X pins σ H s) (hN : X.N.Nodup) (hi : X.N[i]? = some x) (hk : X.env.scope.names.lookup x = some .local)
    (h : ∀ s', Inv X pins (σ.set i none) H s' -> Q () s') : wpAny M A (do bindName X.env x .none; unbindBehindTheSuite X.env x pos) Q E s := by
  obtain ⟨m, hn, hl⟩ := id I.loc; have hcls : (X.env.scope.kind == .class || (X.env.scope.kind == .module && X.env.locals != X.env.globals)) = false := by rw [I.ok.kind]; rfl
  have hiσ : i < σ.length := by rw [I.len]; exact (List.getElem?_eq_some_iff.mp hi).1
  have cne := I.cne; refine wpAny_nameGoes_keeps hk hn hcls fun h' v hn' hs => ?_; refine hld fun g_ k_ => ?_; obtain ⟨oL, _, _, hoL, _⟩ := id hn; refine k_ ?_; refine h _ ⟨I.ok, I.os, I.bare, ⟨fun b o e n hb hx => ?_, fun b o e n hb hx => ?_, I.base.free, fun b o e hx => ?_, I.base.tups, I.base.frzs, I.base.tbls⟩, ⟨_, hn', fun j y v' e1 e2 e3 => ?_⟩, fun y c e => ?_, I.free, I.freeC, fun p hp => ?_, fun b ob e => ?_, by simpa using I.len⟩
  . exact (hs.2 b (Nat.ne_of_lt (Nat.lt_of_lt_of_le (Heap.lt_size e) I.ok.above))).trans (I.base.keep b o e n hb hx)
  . obtain ⟨sl, e1⟩ := I.base.slot b o e n hb hx
    exact ⟨sl, (hs.2 b (Nat.ne_of_lt (Nat.lt_of_lt_of_le (Heap.lt_size e) I.ok.above))).trans e1⟩
  . obtain ⟨o', e1⟩ := I.base.there b o e hx
    exact ⟨o', (hs.2 b (Nat.ne_of_lt (Nat.lt_of_lt_of_le (Heap.lt_size e) I.ok.above))).trans e1⟩
  . by_cases hj : j = i
    . subst hj
      rw [List.getElem?_set_self hiσ] at e2
      cases e2
    . rw [List.getElem?_set_ne (Ne.symm hj)] at e2
      obtain ⟨u', r', q⟩ := hl j y v' e1 e2 e3; refine ⟨u', r', ?_⟩
      rcases q with ⟨k, e⟩ | ⟨k, c, e, z⟩
      . refine .inl ⟨k, ?_⟩
        have : y ≠ x := fun e => hj (nodup_ix hN e1 (e ▸ hi))
        simp [this, e]
      . exact .inr ⟨k, c, e, z.sameBut hs (cne y c e)⟩
  . obtain ⟨w', z⟩ := I.cell y c e
    exact ⟨w', z.sameBut hs (cne y c e)⟩
  . obtain ⟨e, n, ne, nf, d⟩ := I.pin p hp
    exact ⟨(hs.2 p.1 ne).trans e, n, ne, nf, d⟩
  . refine (I.hok b ob e).stay (fun c w' hc q => (hs.2 c ?_).trans q) (fun _ q => q) fun _ _ q => q
    intro z; subst z; have hf := I.free
    rcases hc with z | z
    . rw [<- z, hf] at e; cases e
    . rw [hf] at z; cases z
end
structure CN (X : Cx) (x : Str) (c : Value) : Prop where
  gl : Gl X x
  is : X.mg x = some c \/ (X.mg x = none /\ bootBuiltins x = some c /\ x ≠ "__name__")
section
variable {X : Cx} {x n : Str} {c : Value} {np pos : Pos} {b₀ : Stmt} {su : List Stmt} {rest : List ExceptHandler} {ts : TS} {tr : TH}
theorem Fly.type {M : Model} {pins : List (Addr × Obj)} {σ : St} {H H' : Hp} {s s' : Shared} {a : Addr} {cls : Value} {B : Heap} (F : Fly X pins σ H s H' a cls B s') : PySem.W.Looks M s'.heap (typeOf (.ref a)) cls := by
  obtain ⟨a0, fl⟩ := F.fl; obtain ⟨ob, hob, hc⟩ := fl.there; subst hc; exact (PySem.W.Looks.ld hob).andThen .now
theorem CN.load {E : Value -> Shared -> Prop} {pins : List (Addr × Obj)} {s : Shared} {σ : St} {H : Hp} {Q : Value -> Shared -> Prop} (N : CN X x c) (I : Inv X pins σ H s) (h : Q c s)
    (hd : (x == ("__debug__" : Str)) = false) : wpAny (model X.prog X.w) X.A (eval (.Name x np) X.env) Q E s := by
  rcases N.is with z | ⟨z, z2, z3⟩
  . exact ld_glob I N.gl z h hd
  . exact ld_blt I N.gl z z2 h z3 hd
theorem ph_plain (N : CN X x c) (hs : ∀ a, PSs (X.suite a) (b₀ :: su) ts) (hr : PH X rest tr) (hd : (x == ("__debug__" : Str)) = false := by decide) :
    PH X (.ExceptHandler (some (.Name x np)) none (b₀ :: su) pos :: rest) fun D cls σ H => ∃ b, PySem.W.exmOne X.K cls c = some b /\ if b = true then ts D σ H else tr D cls σ H := by
  intro pins σ H s H' a cls B s' D F h; obtain ⟨b, e, h⟩ := h; have I := F.now; refine wpAny_handleBy_cons (codeAny_handlers_test (CN.load (X := X.suite a) ⟨N.gl, N.is⟩ (I.suite a) ?_ hd)) (by intro q; cases q)
  refine (PySem.W.exm_one I.kIn F.type e).here ?_
  cases b with
  | false => exact hr pins σ H s H' a cls B s' D F h
  | true =>
    refine codeAny_handlers_suite ?_; obtain ⟨a0, fl⟩ := F.fl; refine lands_againW fl fun h6 fl6 sm6 => ?_; have F6 := F.turn fl6 sm6; exact wpAny_mono (hs a pins _ σ H' D (F6.now.suite a) h) (fun f s2 q => q.unsuite I.ok) fun _ _ z => False.elim z
theorem ph_as {i : Nat} (N : CN X x c) (hN : X.N.Nodup) (hi : X.N[i]? = some n) (hk : X.env.scope.names.lookup n = some .local) (hs : ∀ a, PSs (X.suite a) (b₀ :: su) ts) (hr : PH X rest tr) (hd : (x == ("__debug__" : Str)) = false := by decide) :
    PH X (.ExceptHandler (some (.Name x np)) (some n) (b₀ :: su) pos :: rest) fun D cls σ H => ∃ b, PySem.W.exmOne X.K cls c = some b /\
      if b = true then ∃ C, cls = .ref C /\ ∀ a, H a = none -> ts { nx := fun σ' H' => D.nx (σ'.set i none) H', rt := D.rt, bk := fun σ' H' => D.bk (σ'.set i none) H', ct := fun σ' H' => D.ct (σ'.set i none) H' } (σ.set i (some (.ref a))) (upd H a (errO a C)) else tr D cls σ H := by
  intro pins σ H s H' a cls B s' D F h; obtain ⟨b, e, h⟩ := h; have I := F.now; refine wpAny_handleBy_cons (codeAny_handlers_test (CN.load (X := X.suite a) ⟨N.gl, N.is⟩ (I.suite a) ?_ hd)) (by intro q; cases q)
  refine (PySem.W.exm_one I.kIn F.type e).here ?_
  cases b with
  | false => exact hr pins σ H s H' a cls B s' D F h
  | true =>
    obtain ⟨C, rfl, h⟩ := h; refine codeAny_handlers_suite_as ?_; obtain ⟨a0, fl⟩ := F.fl; refine lands_againW fl fun h6 fl6 sm6 => ?_; have F6 := F.turn fl6 sm6; refine store_ok (X := X.suite a) (F6.held.suite a) hN hi (.inl hk) (v := .ref a) rfl (fun s7 I7 => ?_) (.inr hk); refine wpAny_mono (hs a pins s7 _ _ _ I7 (h a F.new.2)) (fun f s2 q => ?_) fun _ _ z => False.elim z
    show wpAny _ _ (do bindName X.env n .none; unbindBehindTheSuite X.env n pos) (fun _ s₃ => SP X pins D f s₃) _ s2
    cases f with
    | next => obtain ⟨σ', H2, I2, q⟩ := q; exact goes_ok (I2.unsuite I.ok) hN hi hk fun s3 I3 => ⟨_, H2, I3, q⟩
    | brk => obtain ⟨σ', H2, I2, q⟩ := q; exact goes_ok (I2.unsuite I.ok) hN hi hk fun s3 I3 => ⟨_, H2, I3, q⟩
    | cont => obtain ⟨σ', H2, I2, q⟩ := q; exact goes_ok (I2.unsuite I.ok) hN hi hk fun s3 I3 => ⟨_, H2, I3, q⟩
    | ret u => obtain ⟨v, σ', H2, I2, r, q⟩ := q; exact goes_ok (I2.unsuite I.ok) hN hi hk fun s3 I3 => ⟨v, _, H2, I3, r, q⟩
theorem ph_never : PH X rest fun _ _ _ _ => False := fun _ _ _ _ _ _ _ _ _ _ _ h => h.elim
def tTry (tb : TSx) (th : TH) (to : TS) : TS := fun D σ H => tb { D with nx := fun σ' H' => to D σ' H' } (th D) σ H
theorem ps_try {body orelse : List Stmt} {h₀ : ExceptHandler} {hs : List ExceptHandler} {tb : TSx} {th : TH} {to : TS} (hb : PSsx X body tb) (hh : PH X (h₀ :: hs) th) (ho : PSs X orelse to)
    (hst : X.stack = X.env :: X.outer := by rfl) (hfr : X.env.frame = some X.env.locals := by rfl) : PS X (.Try body (h₀ :: hs) orelse [] pos) (tTry tb th to) := by
  intro pins s σ H D I h; refine wpAny_Try_except (wpAny_mono (hb pins s σ H _ _ I h) (fun f s1 q => ?_) fun e s1 q => ?_)
  . cases f with
    | next => obtain ⟨σ', H', I', q⟩ := q; exact ho pins s1 σ' H' D I' q
    | brk => exact q
    | cont => exact q
    | ret u => exact q
  . obtain ⟨σ', a, cls, H1, s0, H', B, rfl, F, q⟩ := q
    obtain ⟨a0, fl⟩ := F.fl; refine wpAny_looks_onW (by rw [I.ok.frames, hst]) hfr (hst ▸ fl) fun h4 held4 sm4 => ?_
    refine wpAny_landsW held4 fun h5 fl5 sm5 => ?_; exact hh pins σ' H1 s0 H' a cls B _ D (F.turn (a0 := a0) (hst ▸ fl5) (sm4.trans sm5)) q
end
end L2
namespace L2
open PySem PySem.Spec PyProof.Rows
section
variable {X : Cx}
theorem vals_refs {Ds : List Addr} {us : List Value} (r : Vals (Ds.map V.ref) us) : us = Ds.map Value.ref := by
  induction Ds generalizing us with
  | nil => cases r; rfl
  | cons d ds ih =>
    cases r with
    | cons r rr =>
      rw [ih rr]
      cases (show _ = Value.ref d from r)
      rfl
inductive rIsiX (K : PySem.W.Frag) (xs : (List V)) (H : Hp) (Q : VK) : Prop
  | mk (a : _) (C : _) (c : _) (b : _) (z1_ : xs = [.ref a, c]) (z2_ : H a = some (errO a C)) (z3_ : XC K C) (z4_ : Q (.bl b) H) (z5_ : ((∃ T : String, c = .ty T /\ PySem.W.kitOne K (.ref C) (.type T) = some b) \/ (∃ D : Addr, c = .ref D /\ PySem.W.kitOne K (.ref C) (.ref D) = some b) \/ ∃ (p : Addr) (Ds : List Addr), c = .ref p /\ H p = some (.tup (Ds.map V.ref)) /\ PySem.W.kitAny K (.ref C) (Ds.map Value.ref) = some b)) : rIsiX K xs H Q
theorem call_isiX : CallR X (.builtin "isinstance") (rIsiX X.K) := by
  intro pins s σ H xs us Q I r h; obtain ⟨a, C, c, b, rfl, ea, xc, q, h⟩ := h; refine hld fun g_ k_ => ?_; obtain ⟨u, w', rfl, rx, rt⟩ := vals2 r; refine k_ ?_
  cases (show u = Value.ref a from rx)
  have xa : XAt s.heap a C := (show ObjOk X.prog X.w H s.heap a (errO a C) from I.hok a _ ea).1
  have fin : ∀ tk, EP X pins σ Q (.bool b) { s with toks := tk } := fun tk => ⟨.bl b, H, I.tok tk, rfl, q⟩
  rcases h with ⟨T, rfl, e⟩ | ⟨D, rfl, e⟩ | ⟨p, Ds, rfl, ep, e⟩
  . cases (show w' = Value.type T from rt)
    exact PySem.W.kia_one (xc_kit xc) I.kIn xa e (fun z => nomatch z) fin
  . cases (show w' = Value.ref D from rt)
    exact PySem.W.kia_one (xc_kit xc) I.kIn xa e (fun z => nomatch z) fin
  . cases (show w' = Value.ref p from rt)
    refine hld fun g_ k_ => ?_; obtain ⟨_, its, rv, ob, e1, e2, n, e3⟩ := (show ObjOk X.prog X.w H s.heap p (.tup (Ds.map V.ref)) from I.hok p _ ep); refine k_ ?_
    refine hld fun g_ k_ => ?_; obtain ⟨oc, od, oda, osl⟩ := ob; refine k_ ?_
    dsimp only at e2 e3
    subst e2 e3; rw [vals_refs rv] at e1; exact PySem.W.kia_tup (xc_kit xc) I.kIn xa e1 e (fun z => nomatch z) fin
theorem call_isiS {a : Addr} : CallR (X.suite a) (.builtin "isinstance") (rIsiX X.K) := call_isiX
end
end L2
namespace PySem
end PySem
namespace L2
open PySem PySem.Spec PyProof.Rows
section
variable {X : Cx}
def eqL (xs ys : List V) : Bool := xs.length == ys.length && (List.range xs.length).all fun j => eqV (xs.getD j .non) (ys.getD j .non)
theorem eq_each {A : Around} {s : Shared} {xs ys : List V} {us ws : List Value} (r : Vals xs us) (r2 : Vals ys ws) (f1 : xs.all flatV = true) (f2 : ys.all flatV = true) :
    ∀ j (h1 : j < us.toArray.size) (h2 : j < ws.toArray.size), SeqAt.EqAt A s us.toArray[j] ws.toArray[j] (eqV (xs.getD j .non) (ys.getD j .non)) := by
  intro j h1 h2; rw [List.size_toArray] at h1 h2; have l1 := r.length; have l2 := r2.length; have hj : j < xs.length := by omega
  have hj2 : j < ys.length := by omega
  obtain ⟨u1, e1, q1⟩ := r.get (List.getElem?_eq_getElem hj); obtain ⟨u2, e2, q2⟩ := r2.get (List.getElem?_eq_getElem hj2)
  have e3 : us.toArray[j] = u1 := by
    rw [List.getElem?_eq_getElem h1] at e1
    simpa using Option.some.inj e1
  have e4 : ws.toArray[j] = u2 := by
    rw [List.getElem?_eq_getElem h2] at e2
    simpa using Option.some.inj e2
  rw [e3, e4]; have g1 : xs.getD j .non = xs[j] := by simp [hj]
  have g2 : ys.getD j .non = ys[j] := by simp [hj2]
  rw [g1, g2]; exact eqAt_V q1 q2 (List.all_eq_true.mp f1 _ (List.getElem_mem hj)) (List.all_eq_true.mp f2 _ (List.getElem_mem hj2))
end
end L2
namespace L2
open PySem PySem.Spec PyProof.Rows
end L2
namespace L2
open PySem PySem.Spec PyProof.Rows
section
variable {P : Program} {w : World} {K : PySem.W.Frag} {mg : Str -> Option Value} {base : Heap}
structure FunD (K : PySem.W.Frag) (x qual : Str) (st : Stmt) (f : Addr) (fd : FuncData) : Prop where
  ex : ∃ (T : Addr) (oc : Value) (od : Option Addr) (kV doc pm : Value) (an : Option Addr) (cdv ct : Value) (osl : Array (Option Value)) (tc : Value) (td : Option Addr) (tn : Nat) (tsl : Array (Option Value)),
    fd = PySem.W.fnOf x qual (defArgs st) (defBody st) (defScope st) (.ref T) kV doc pm an cdv ct /\ K.lookup f = some ⟨oc, od, .func fd, osl⟩ /\ PySem.W.codeIn K cdv qual = true /\ K.lookup T = some ⟨tc, td, .seq #[.none] tn, tsl⟩
  kp : PySem.W.keepIn K (.ref f) = true
theorem funD_mk {x qual : Str} {st : Stmt} {f T : Addr} {oc : Value} {od an : Option Addr} {osl : Array (Option Value)} {kV doc pm cdv ct tc : Value} {td : Option Addr} {tn : Nat} {tsl : Array (Option Value)}
    (l : K.lookup f = some ⟨oc, od, .func (PySem.W.fnOf x qual (defArgs st) (defBody st) (defScope st) (.ref T) kV doc pm an cdv ct), osl⟩)
    (c : PySem.W.codeIn K cdv qual = true) (k : PySem.W.keepIn K (.ref f) = true) (t : K.lookup T = some ⟨tc, td, .seq #[.none] tn, tsl⟩) : FunD K x qual st f (PySem.W.fnOf x qual (defArgs st) (defBody st) (defScope st) (.ref T) kV doc pm an cdv ct) :=
  ⟨⟨T, oc, od, kV, doc, pm, an, cdv, ct, osl, tc, td, tn, tsl, rfl, l, c, t⟩, k⟩
theorem FunD.okX {qual x : Str} {st : Stmt} {f : Addr} {fd : FuncData} {N ps : List Str} {k : Nat} {sp : Sp} (F : FunD K x qual st f fd) (S : FnScope N ps (defScope st)) (len : ∀ vs H Q E, sp vs H Q E -> vs.length = ps.length)
    (hbody : ∀ (cdv : Value) (A : Around) (outer : List Env) (s : Shared) (H : Hp) (vs : List V) (Q : VK) (E : XK), Room k (A.deeper (envOfC qual (defScope st) s.heap.objs.size f cdv)) -> sp vs H Q E ->
      ∃ t, PSs (cxOf (CXe P w) P w K mg base N qual (defScope st) f cdv A outer s H E) (defBody st) t /\ t { nx := fun _ H' => Q .non H', rt := Q } (start N vs) H) : FnOk P w K mg base (CXe P w) (k + 1) f fd ps sp := by
  refine hld fun g_ k_ => ?_; obtain ⟨T, oc, od, kV, doc, pm, an, cdv, ct, osl, tc, td, tn, tsl, rfl, lk, hcd, _⟩ := F.ex; refine k_ ?_; exact fn_of lk hcd S len fun A outer s H vs Q E hr hsp => hbody cdv A outer s H vs Q E hr hsp
theorem FunD.binds {x qual : Str} {st : Stmt} {f : Addr} {fd : FuncData} {ps : List Str} (F : FunD K x qual st f fd)
    (h : ∀ (T : Addr) (kV doc pm : Value) (an : Option Addr) (cdv ct : Value) (us : List Value), us.length = ps.length -> ∃ k : Option (Array Value) -> Sem (List (Str × Value)),
      bindArgs (PySem.W.fnOf x qual (defArgs st) (defBody st) (defScope st) (.ref T) kV doc pm an cdv ct) ⟨us, []⟩ = seqItems? (.ref T) >>= k /\ k (some #[.none]) = pure (ps.zip us)) : Binds K fd ps [] := by
  refine hld fun g_ k_ => ?_; obtain ⟨T, oc, od, kV, doc, pm, an, cdv, ct, osl, tc, td, tn, tsl, rfl, lk, hcd, lt⟩ := F.ex; refine k_ ?_; intro s us KX hl; rw [List.append_nil] at hl ⊢; obtain ⟨k, h1, h2⟩ := h T kV doc pm an cdv ct us hl; exact BindsTo.of_defaults rfl (KX _ _ lt) rfl h1 h2
theorem FunD.binds1 {x qual : Str} {st : Stmt} {f : Addr} {fd : FuncData} {ps : List Str} (F : FunD K x qual st f fd)
    (h : ∀ (T : Addr) (kV doc pm : Value) (an : Option Addr) (cdv ct : Value) (us : List Value), us.length + 1 = ps.length -> ∃ k : Option (Array Value) -> Sem (List (Str × Value)),
      bindArgs (PySem.W.fnOf x qual (defArgs st) (defBody st) (defScope st) (.ref T) kV doc pm an cdv ct) ⟨us, []⟩ = seqItems? (.ref T) >>= k /\ k (some #[.none]) = pure (ps.zip (us ++ [.none]))) : Binds K fd ps [.none] := by
  refine hld fun g_ k_ => ?_; obtain ⟨T, oc, od, kV, doc, pm, an, cdv, ct, osl, tc, td, tn, tsl, rfl, lk, hcd, lt⟩ := F.ex; refine k_ ?_; intro s us KX hl; rw [List.length_append] at hl; obtain ⟨k, h1, h2⟩ := h T kV doc pm an cdv ct us hl; exact BindsTo.of_defaults rfl (KX _ _ lt) rfl h1 h2
theorem FnOk.quiet {k : Nat} {f : Addr} {fd : FuncData} {ps : List Str} {sp sp' : Sp} (F : FnOk P w K mg base (CXe P w) k f fd ps sp) (h : ∀ vs H Q E, sp' vs H Q E -> sp vs H Q E0) : FnOk P w K mg base CX0 k f fd ps sp' :=
  ⟨fun vs H Q E q => F.len vs H Q E0 (h _ _ _ _ q), fun A outer s H args us vs Q E hr e0 hb hv hs => codeAny_mono (F.run A outer s H args us vs Q E0 hr e0 hb hv (h _ _ _ _ hs)) fun r s' hq => by
    cases r with
    | error e =>
      refine hld fun g_ k_ => ?_; obtain ⟨a, cls, a0, H', B, _, _, _, _, _, _, _, _, hE⟩ := hq; refine k_ ?_; exact hE
    | ok fl => cases fl <;> exact hq⟩
end
end L2
namespace L2
open PySem PySem.Spec PyProof.Rows
end L2
namespace L2
open PySem PySem.Spec PyProof.Rows
end L2
namespace L2
open PySem PySem.Spec PyProof.Rows
end L2
namespace L2
open PySem PySem.Spec PyProof.Rows
end L2
namespace L2
open PySem PySem.Spec PyProof.Rows
end L2
namespace L2
open PySem PySem.Spec PyProof.Rows
section
variable {κ : Type} [DecidableEq κ]
def valV (kvs : List (κ × V)) (k : κ) : Option V := (kvs.find? fun kv => decide (kv.1 = k)).map (·.2)
def putK (kvs : List (κ × V)) (k : κ) (v : V) : List (κ × V) :=
  if (kvs.any fun kv => decide (kv.1 = k)) = true then kvs.map (fun kv => if kv.1 = k then (kv.1, v) else kv) else kvs ++ [(k, v)]
theorem valV_pos {p : κ × V} {r : List (κ × V)} {k : κ} (e : p.1 = k) : valV (p :: r) k = some p.2 := by simp [valV, List.find?_cons, e]
theorem valV_neg {p : κ × V} {r : List (κ × V)} {k : κ} (e : ¬ p.1 = k) : valV (p :: r) k = valV r k := by simp [valV, List.find?_cons, e]
theorem valV_any (k : κ) : ∀ kvs : List (κ × V), (kvs.any fun kv => decide (kv.1 = k)) = (valV kvs k).isSome
  | [] => rfl
  | p :: r => by
    rw [List.any_cons]
    by_cases e : p.1 = k
    . simp only [valV_pos e, decide_eq_true e, Bool.true_or, Option.isSome_some]
    . rw [valV_neg e, decide_eq_false e, Bool.false_or]; exact valV_any k r
theorem length_putK (kvs : List (κ × V)) (k : κ) (v : V) : (putK kvs k v).length <= kvs.length + 1 := by
  unfold putK
  split
  . rw [List.length_map]; omega
  . rw [List.length_append, List.length_cons, List.length_nil]; omega
theorem putK_new {kvs : List (κ × V)} {k : κ} (v : V) (h : valV kvs k = none) : putK kvs k v = kvs ++ [(k, v)] := by
  unfold putK
  rw [valV_any, h]; exact if_neg (by decide)
theorem RelO.isSome_eq {o : Option V} {u : Option Value} (r : RelO o u) : o.isSome = u.isSome := by
  cases o with
  | none => cases u with
    | none => rfl
    | some _ => exact (show False from r).elim
  | some _ => cases u with
    | none => exact (show False from r).elim
    | some _ => rfl
theorem KV.val {kvs : List (κ × V)} {vs : List (κ × Value)} (r : KV kvs vs) (k : κ) : RelO (valV kvs k) (valueAt vs k) := by
  unfold KV at r
  induction r with
  | nil => exact True.intro
  | @cons p q ps qs h t ih =>
    obtain ⟨h1, h2⟩ := h
    by_cases e : p.1 = k
    . have e' : q.1 = k := h1.symm.trans e
      have b : valueAt (q :: qs) k = some q.2 := by simp [valueAt, List.find?_cons, e']
      rw [valV_pos e, b]; exact h2
    . have e' : ¬ q.1 = k := fun z => e (h1.trans z)
      have b : valueAt (q :: qs) k = valueAt qs k := by simp [valueAt, List.find?_cons, e']
      rw [valV_neg e, b]; exact ih
theorem KV.any {kvs : List (κ × V)} {vs : List (κ × Value)} (r : KV kvs vs) (k : κ) : (kvs.any fun kv => decide (kv.1 = k)) = vs.any fun kv => decide (kv.1 = k) := by
  unfold KV at r
  induction r with
  | nil => rfl
  | cons h t ih => rw [List.any_cons, List.any_cons, ih, h.1]
theorem KV.repl {kvs : List (κ × V)} {vs : List (κ × Value)} (r : KV kvs vs) (k : κ) {y : V} {u : Value} (ry : RelV y u) :
    KV (kvs.map fun kv => if kv.1 = k then (kv.1, y) else kv) (vs.map fun kv => if kv.1 = k then (kv.1, u) else kv) := by
  unfold KV at r ⊢
  induction r with
  | nil => exact .nil
  | @cons p q ps qs h t ih =>
    rw [List.map_cons, List.map_cons]; refine .cons ?_ ih; obtain ⟨h1, h2⟩ := h
    by_cases e : p.1 = k
    . rw [if_pos e, if_pos (h1.symm.trans e)]; exact ⟨h1, ry⟩
    . rw [if_neg e, if_neg (fun z => e (h1.trans z))]; exact ⟨h1, h2⟩
theorem KV.put {kvs : List (κ × V)} {vs : List (κ × Value)} (r : KV kvs vs) (k : κ) {y : V} {u : Value} (ry : RelV y u) : KV (putK kvs k y) (stored vs k u) := by
  unfold putK stored
  rw [r.any k]
  by_cases e : (vs.any fun kv => decide (kv.1 = k)) = true
  . rw [if_pos e, if_pos e]; exact r.repl k ry
  . rw [if_neg e, if_neg e]; exact Paired.snoc r ⟨rfl, ry⟩
theorem KV.length {kvs : List (κ × V)} {vs : List (κ × Value)} (r : KV kvs vs) : kvs.length = vs.length := Paired.length r
end
theorem kV_is {P : Program} {w : World} {k : Key} {u : Value} (r : RelV (kV k) u) : (mixKind P w).is k u = true := by
  cases k with
  | inl i => obtain ⟨t, e⟩ := (show ∃ t, u = Value.int i t from r); subst e; exact mixKind_int P w i t
  | inr x => obtain ⟨t, e⟩ := (show ∃ t, u = Value.str x t from r); subst e; exact mixKind_str P w x t
theorem items_are {P : Program} {w : World} : ∀ {ks : List Key} {us : List Value}, Vals (ks.map kV) us -> ItemsAre (mixKind P w) ks us
  | [], _, r => by rw [List.map_nil] at r; cases r; exact .nil
  | k :: ks, _, r => by
    rw [List.map_cons] at r
    cases r with
    | cons h t => exact .cons (kV_is h) (items_are t)
abbrev KT (H : Hp) : List (List Key × V) -> List (List Key × Addr × Value) -> Prop := Paired fun p q => p.1 = q.1 /\ H q.2.1 = some (.tup (p.1.map kV)) /\ RelV p.2 q.2.2
theorem KT.val {H : Hp} {kvs : List (List Key × V)} {xs : List (List Key × Addr × Value)} (r : KT H kvs xs) (k : List Key) : RelO (valV kvs k) ((atKey xs k).map (·.2)) := by
  induction r with
  | nil => exact True.intro
  | @cons p q ps qs h t ih =>
    obtain ⟨h1, _, h2⟩ := h
    by_cases e : p.1 = k
    . have e' : q.1 = k := h1.symm.trans e
      have b : atKey (q :: qs) k = some q.2 := by simp [atKey, List.find?_cons, e']
      rw [valV_pos e, b]; exact h2
    . have e' : ¬ q.1 = k := fun z => e (h1.trans z)
      have b : atKey (q :: qs) k = atKey qs k := by simp [atKey, List.find?_cons, e']
      rw [valV_neg e, b]; exact ih
theorem KT.repl {H : Hp} {kvs : List (List Key × V)} {xs : List (List Key × Addr × Value)} (r : KT H kvs xs) (k : List Key) {y : V} {u : Value} (ry : RelV y u) :
    KT H (kvs.map fun kv => if kv.1 = k then (kv.1, y) else kv) (xs.map (putAt k u)) := by
  induction r with
  | nil => exact .nil
  | @cons p q ps qs h t ih =>
    rw [List.map_cons, List.map_cons]; refine .cons ?_ ih; obtain ⟨h1, h2, h3⟩ := h
    unfold putAt
    by_cases e : p.1 = k
    . rw [if_pos e, if_pos (h1.symm.trans e)]; exact ⟨h1, h2, ry⟩
    . rw [if_neg e, if_neg (fun z => e (h1.trans z))]; exact ⟨h1, h2, h3⟩
theorem KT.put {H : Hp} {kvs : List (List Key × V)} {xs : List (List Key × Addr × Value)} (r : KT H kvs xs) (k : List Key) {b : Addr} {y : V} {u : Value} (hb : H b = some (.tup (k.map kV))) (ry : RelV y u) :
    KT H (putK kvs k y) (storedH xs k b u) := by
  have e : (kvs.any fun kv => decide (kv.1 = k)) = (atKey xs k).isSome := by
    rw [valV_any, (r.val k).isSome_eq, Option.isSome_map]
  unfold putK storedH
  rw [e]
  by_cases q : (atKey xs k).isSome = true
  . rw [if_pos q, if_pos q]; exact r.repl k ry
  . rw [if_neg q, if_neg q]; exact Paired.snoc r ⟨rfl, hb, ry⟩
theorem KT.keeps {H H' : Hp} {kvs : List (List Key × V)} {xs : List (List Key × Addr × Value)} (r : KT H kvs xs) (ht : ∀ b ys, H b = some (.tup ys) -> H' b = some (.tup ys)) : KT H' kvs xs :=
  Paired.mapP r fun _ _ z => ⟨z.1, ht _ _ z.2.1, z.2.2⟩
section
variable {P : Program} {w : World} {H : Hp} {h : Heap} {a : Addr}
theorem rd_of {u : HO} (ok : HOk P w H h) (e : Rd H a u) : ObjOk P w H h a u := e.ok ok
theorem dk_rd {kvs : List (Key × V)} (ok : HOk P w H h) (e : Rd H a (.dK kvs)) : kvs.length <= sizeLine /\ (a == sysModules) = false /\ ∃ vs, KV kvs vs /\ h.DictOf (mixKind P w) a vs :=
  show ObjOk P w H h a (.dK kvs) from rd_of ok e
theorem dk_of {kvs : List (Key × V)} (ok : HOk P w H h) (e : H a = some (.dK kvs)) : kvs.length <= sizeLine /\ (a == sysModules) = false /\ ∃ vs, KV kvs vs /\ h.DictOf (mixKind P w) a vs := dk_rd ok (.inl e)
theorem key_of {ks : List Key} (ok : HOk P w H h) (e : H a = some (.tup (ks.map kV))) : (tupleKind (mixKind P w)).is h ks a := by
  refine hld fun g_ k_ => ?_; obtain ⟨_, its, r, o, h1, h2, n, h3⟩ := (show ObjOk P w H h a (.tup (ks.map kV)) from ok a _ e); refine k_ ?_
  exact ⟨o, its.toArray, n, h1, h2, h3, by simpa using items_are r⟩
theorem dt_rd {kvs : List (List Key × V)} (ok : HOk P w H h) (e : Rd H a (.dT kvs)) : kvs.length <= sizeLine /\ (a == sysModules) = false /\
    ∃ xs, KT H kvs xs /\ h.DictOfH (tupleKind (mixKind P w)) a xs := by
  refine hld fun g_ k_ => ?_; obtain ⟨z, y, xs, r, o, es, ep, h1, h2, h3, h4, h5⟩ := (show ObjOk P w H h a (.dT kvs) from rd_of ok e); refine k_ ?_
  refine ⟨z, y, xs, r, o, es, ep, h1, h2, h3, h4, fun x hx => ?_, h5⟩
  have all : ∀ {l : List (List Key × V)} {m : List (List Key × Addr × Value)}, KT H l m -> ∀ x ∈ m, (tupleKind (mixKind P w)).is h x.1 x.2.1 := by
    intro l m q
    induction q with
    | nil => intro x hx; exact nomatch hx
    | @cons p q ps qs hq t ih =>
      intro x hx
      rcases List.mem_cons.mp hx with e | hx
      . subst e
        exact key_of ok (by rw [<- hq.1]; exact hq.2.1)
      . exact ih x hx
  exact all r x hx
theorem dt_of {kvs : List (List Key × V)} (ok : HOk P w H h) (e : H a = some (.dT kvs)) : kvs.length <= sizeLine /\ (a == sysModules) = false /\
    ∃ xs, KT H kvs xs /\ h.DictOfH (tupleKind (mixKind P w)) a xs := dt_rd ok (.inl e)
end
def DGet (H : Hp) (a : Addr) (y : V) (r : Option V) : Prop :=
  (∃ kvs k, Rd H a (.dK kvs) /\ y = kV k /\ r = valV kvs k) \/ ∃ kvs k b, Rd H a (.dT kvs) /\ y = .ref b /\ H b = some (.tup (k.map kV)) /\ r = valV kvs k
def DPut (H : Hp) (a : Addr) (y v : V) (H' : Hp) : Prop :=
  (∃ kvs k, H a = some (.dK kvs) /\ y = kV k /\ kvs.length < sizeLine /\ H' = upd H a (.dK (putK kvs k v))) \/
  ∃ kvs k b, H a = some (.dT kvs) /\ y = .ref b /\ H b = some (.tup (k.map kV)) /\ kvs.length < sizeLine /\ H' = upd H a (.dT (putK kvs k v))
theorem DGet.k {H : Hp} {a : Addr} {kvs : List (Key × V)} {k : Key} (e : H a = some (.dK kvs)) : DGet H a (kV k) (valV kvs k) := .inl ⟨kvs, k, .inl e, rfl, rfl⟩
theorem DGet.t {H : Hp} {a b : Addr} {kvs : List (List Key × V)} {k : List Key} (e : H a = some (.dT kvs)) (eb : H b = some (.tup (k.map kV))) : DGet H a (.ref b) (valV kvs k) := .inr ⟨kvs, k, b, .inl e, rfl, eb, rfl⟩
theorem DPut.k {H : Hp} {a : Addr} {kvs : List (Key × V)} {k : Key} {v : V} (e : H a = some (.dK kvs)) (hl : kvs.length < sizeLine) : DPut H a (kV k) v (upd H a (.dK (putK kvs k v))) := .inl ⟨kvs, k, e, rfl, hl, rfl⟩
theorem DPut.t {H : Hp} {a b : Addr} {kvs : List (List Key × V)} {k : List Key} {v : V} (e : H a = some (.dT kvs)) (eb : H b = some (.tup (k.map kV))) (hl : kvs.length < sizeLine) :
    DPut H a (.ref b) v (upd H a (.dT (putK kvs k v))) := .inr ⟨kvs, k, b, e, rfl, eb, hl, rfl⟩
section
variable {X : Cx} {pins : List (Addr × Obj)} {σ : St} {H : Hp} {s : Shared} {a : Addr} {y v : V} {u r : Value} {o : Option V} {A : Around} {E : Value -> Shared -> Prop}
theorem Inv.big (I : Inv X pins σ H s) : sysModules < s.heap.objs.size := by
  have h : mainGlobals < s.heap.objs.size := (I.mod.glob.keeps I.bk).lt; exact Nat.lt_trans (by decide) h
theorem d_getItem {Q : Value -> Shared -> Prop} (hu : A.units + 1 < cLine) (I : Inv X pins σ H s) (g : DGet H a y (some v)) (ry : RelV y u) (h : ∀ w' s', Inv X pins σ H s' -> RelV v w' -> Q w' s') :
    wpAny (model X.prog X.w) A (getItem (.ref a) u) Q E s := by
  rcases g with ⟨kvs, k, e, ey, l⟩ | ⟨kvs, k, b, e, ey, eb, l⟩
  . subst ey
    refine hld fun g_ k_ => ?_; obtain ⟨z, hd, vs, rel, dd⟩ := dk_rd I.hok e; refine k_ ?_; obtain ⟨w', hw, rw'⟩ := RelO.some_of (v := v) (o := valueAt vs k) (by rw [l]; exact rel.val k)
    exact wpAny_getItem_of (kV_is ry) dd.mapOf hw (h w' _ (I.tok _) rw')
  . subst ey
    cases (show u = Value.ref b from ry)
    refine hld fun g_ k_ => ?_; obtain ⟨z, hd, xs, rel, dd⟩ := dt_rd I.hok e; refine k_ ?_; obtain ⟨w', hw, rw'⟩ := RelO.some_of (v := v) (o := (atKey xs k).map (·.2)) (by rw [l]; exact rel.val k)
    obtain ⟨p, hp, hp2⟩ := Option.map_eq_some_iff.mp hw; refine wpAny_getItem_heap (tupleKind_room_in1 hu) (key_of I.hok eb) dd hp ?_; rw [hp2]; exact h w' _ (I.tok _) rw'
theorem d_notIn {Q : Value -> Shared -> Prop} (hu : A.units + 1 < cLine) (I : Inv X pins σ H s) (g : DGet H a y o) (ry : RelV y u) (h : ∀ s', Inv X pins σ H s' -> Q (.bool (!o.isSome)) s') :
    wpAny (model X.prog X.w) A (compareOp .NotIn u (.ref a)) Q E s := by
  rcases g with ⟨kvs, k, e, ey, l⟩ | ⟨kvs, k, b, e, ey, eb, l⟩
  . subst ey
    refine hld fun g_ k_ => ?_; obtain ⟨z, hd, vs, rel, dd⟩ := dk_rd I.hok e; refine k_ ?_; refine wpAny_notIn_of (kV_is ry) hd dd.mapOf ?_; rw [<- (rel.val k).isSome_eq, <- l]; exact h _ (I.tok _)
  . subst ey
    cases (show u = Value.ref b from ry)
    refine hld fun g_ k_ => ?_; obtain ⟨z, hd, xs, rel, dd⟩ := dt_rd I.hok e; refine k_ ?_; refine wpAny_notIn_heap (tupleKind_room_in1 hu) (key_of I.hok eb) hd dd ?_; have q := (rel.val k).isSome_eq; rw [Option.isSome_map] at q; rw [<- q, <- l]; exact h _ (I.tok _)
theorem d_write {h' : Heap} {t' : Nat} {ob : HO} (I : Inv X pins σ H s) (mu : Mut (H a)) (hs : Heap.SameBut a s.heap h') (he : ∃ q, h'.get? a = some q) (new : ObjOk X.prog X.w (upd H a ob) h' a ob) :
    Inv X pins σ (upd H a ob) { s with heap := h', toks := t' } :=
  I.write (x := a) (e := a) mu (.inl rfl) (fun b q hb z => (hs.2 b hb).trans z) he new
theorem dk_new {P : Program} {w : World} {H' : Hp} {h' : Heap} {kvs : List (Key × V)} {vs : List (Key × Value)} (z : kvs.length <= sizeLine) (hd : (a == sysModules) = false) (rel : KV kvs vs) (dd : h'.DictOf (mixKind P w) a vs) :
    ObjOk P w H' h' a (.dK kvs) := ⟨z, hd, vs, rel, dd⟩
theorem d_setItem {H' : Hp} {Q : Unit -> Shared -> Prop} (hu : A.units + 1 < cLine) (I : Inv X pins σ H s) (g : DPut H a y v H') (ry : RelV y u) (rv : RelV v r) (h : ∀ s', Inv X pins σ H' s' -> Q () s') :
    wpAny (model X.prog X.w) A (setItem (.ref a) u r) Q E s := by
  rcases g with ⟨kvs, k, e, ey, l, eH⟩ | ⟨kvs, k, b, e, ey, eb, l, eH⟩
  . subst ey eH
    refine hld fun g_ k_ => ?_; obtain ⟨z, hd, vs, rel, dd⟩ := dk_of I.hok e; refine k_ ?_; have hz : vs.length <= sizeLine := by rw [<- rel.length]; exact z
    have hl : (putK kvs k v).length <= sizeLine := by have := length_putK kvs k v; omega
    refine wpAny_setItem_pairs (hsz := hz) (kV_is ry) dd fun h' dd' hs => h _ ?_; have he : ∃ q, h'.get? a = some q := let ⟨q, _, _, hq, _⟩ := dd'; ⟨q, hq⟩; exact d_write I (by rw [e]; exact True.intro) hs he (dk_new hl hd (rel.put k rv) dd')
  . subst ey eH
    cases (show u = Value.ref b from ry)
    refine hld fun g_ k_ => ?_; obtain ⟨z, hd, xs, rel, dd⟩ := dt_of I.hok e; refine k_ ?_; have hz : xs.length <= sizeLine := by rw [<- Paired.length rel]; exact z
    have hl : (putK kvs k v).length <= sizeLine := by have := length_putK kvs k v; omega
    refine wpAny_setItem_heap (hsz := hz) (tupleKind_room_in1 hu) (key_of I.hok eb) dd fun h' dd' hs => h _ ?_; refine hld fun g_ k_ => ?_; obtain ⟨q, es, ep, hq, h2, h3, h4, _, h5⟩ := dd'; refine k_ ?_; refine d_write I (by rw [e]; exact True.intro) hs ⟨q, hq⟩ ⟨hl, hd, _, (rel.put k eb rv).keeps fun c ys ec => ?_, q, es, ep, hq, h2, h3, h4, h5⟩
    rw [upd_ne (ne_of ec e (fun z => nomatch z))]; exact ec
end
def NoSl (i : Expr) : Prop := ∀ ov iv, subscripted i false ov iv = operate [ov, iv] (getItem ov iv)
theorem subD_of {prog : Program} {w : World} {A : Around} {E : Value -> Shared -> Prop} {s : Shared} {env : Env} {value slice : Expr} {pos : Pos} {T id : String} {Q : Value -> Shared -> Prop}
    (hl : typeLookup (.type T) "__getitem__" = pure (some (.builtin id))) (hs : NoSl slice)
    (h : wpAny (model prog w) A (eval value env) (fun o s₁ => wpAny (model prog w) A (eval slice env) (fun i s₂ => s₂.TypeIs o T /\ wpAny (model prog w) A (getItem o i) Q E s₂) E s₁) E s) :
    wpAny (model prog w) A (eval (.Subscript value slice pos) env) Q E s := by
  refine Subscript_ (wpAny_mono h (fun o s₁ h₁ => wpAny_mono h₁ (fun i s₂ h₂ => ?_) fun _ _ x => x) fun _ _ x => x); obtain ⟨hT, h₂⟩ := h₂
  unfold subscriptTail
  refine wpAny_bind ?_; rw [getitemInPython_of_ne hT.not_modules]; refine wpAny_bind (wpAny_specialOf hT hl ?_)
  have fin : wpAny (model prog w) A (subscripted slice false o i) (fun r s₃ => wpAny (model prog w) A (letTemporaryGo value o r >>= fun _ => pure r) Q E s₃) E s₂ := by
    rw [hs o i]; exact wpAny_operating (wpAny_mono h₂ (fun r s₃ h₃ => wpAny_bind (wpAny_letTemporaryGo (wpAny_pure h₃))) fun _ _ x => x)
  first
    | exact wpAny_pure (wpAny_bind fin)
    | exact wpAny_bind (wpAny_pure (wpAny_bind fin))
    | exact wpAny_bind fin
theorem dict_typeIs {X : Cx} {pins : List (Addr × Obj)} {σ : St} {H : Hp} {s : Shared} {a : Addr} {y : V} {o : Option V} (I : Inv X pins σ H s) (g : DGet H a y o) : s.TypeIs (.ref a) "dict" := by
  rcases g with ⟨kvs, k, e, _, _⟩ | ⟨kvs, k, b, e, _, _, _⟩
  . obtain ⟨_, _, vs, _, dd⟩ := dk_rd I.hok e
    exact dd.typeIs
  . obtain ⟨_, _, xs, _, dd⟩ := dt_rd I.hok e
    exact dd.typeIs
def tDGet (td ty : TE) : TE := fun σ H Q => td σ H fun x H1 => ty σ H1 fun y H2 => ∃ a v, x = .ref a /\ DGet H2 a y (some v) /\ Q v H2
def tDNotIn (ty td : TE) : TE := fun σ H Q => ty σ H fun y H1 => td σ H1 fun x H2 => ∃ a o, x = .ref a /\ DGet H2 a y o /\ Q (.bl (!o.isSome)) H2
def sDPut (td ty tv : TE) : TS := fun D σ H => tv σ H fun v H1 => td σ H1 fun x H2 => ty σ H2 fun y H3 => ∃ a H4, x = .ref a /\ DPut H3 a y v H4 /\ D.nx σ H4
section
variable {X : Cx} {o i e value : Expr} {pos pos' tpos : Pos} {td ty tv : TE}
theorem pe_dget (hu : X.A.units + 1 < cLine) (ho : PE X o td) (hi : PE X i ty) (hs : NoSl i) : PE X (.Subscript o i pos) (tDGet td ty) := by
  intro pins s σ H Q I h; refine subD_of PySem.F.slot_dict_getitem.lookup hs (thn (ho pins s σ H _ I h) fun u s1 ⟨x, H1, I1, rx, q1⟩ => thn (hi pins s1 σ H1 _ I1 q1) fun iv s2 ⟨y, H2, I2, ry, a, v, ex, g, q2⟩ => ?_); subst ex; obtain rfl : u = Value.ref a := rx; exact ⟨dict_typeIs I2 g, d_getItem hu I2 g ry fun w' s3 I3 rw' => ⟨v, H2, I3, rw', q2⟩⟩
theorem pc_dnotin (hu : X.A.units + 1 < cLine) (hi : PE X i ty) (ho : PE X o td) : PC X .NotIn i o (tDNotIn ty td) := by
  intro pins s σ H Q I h; refine thn (hi pins s σ H _ I h) fun iv s1 ⟨y, H1, I1, ry, q1⟩ => thn (ho pins s1 σ H1 _ I1 q1) fun u s2 ⟨x, H2, I2, rx, a, ov, ex, g, q2⟩ => ?_; subst ex; obtain rfl : u = Value.ref a := rx; exact d_notIn hu I2 g ry fun s3 I3 => ⟨.bl (!ov.isSome), H2, I3, rfl, q2⟩
theorem ps_dput (hu : X.A.units + 1 < cLine) (ho : PE X o td) (hi : PE X i ty) (hv : PE X value tv) (hs : swapsWith value (some (.Subscript o i pos')) pos.line X.env = pure false) :
    PS X (.Assign [.Subscript o i pos'] value pos) (sDPut td ty tv) := by
  intro pins s σ H D I h; refine wpAny_Assign_Subscript (thn (hv pins s σ H _ I h) fun r s1 ⟨v, H1, I1, rv, q1⟩ => thn (ho pins s1 σ H1 _ I1 q1) fun u s2 ⟨x, H2, I2, rx, q2⟩ => thn (hi pins s2 σ H2 _ I2 q2) fun iv s3 ⟨y, H3, I3, ry, a, H4, ex, g, q3⟩ => ?_) hs; subst ex; obtain rfl : u = Value.ref a := rx; exact d_setItem hu I3 g ry rv fun s4 I4 => ⟨σ, H4, I4, q3⟩
end
theorem dk_empty {P : Program} {w : World} {H : Hp} (h : Heap) (hb : sysModules < h.objs.size) : ObjOk P w H (h.push { cls := .type "dict", data := .dict #[] }) h.objs.size (.dK []) :=
  ⟨Nat.zero_le _, beq_eq_false_iff_ne.mpr (Ne.symm (Nat.ne_of_lt hb)), [], .nil, Heap.DictOf.new h⟩
theorem dt_empty {P : Program} {w : World} {H : Hp} (h : Heap) (hb : sysModules < h.objs.size) : ObjOk P w H (h.push { cls := .type "dict", data := .dict #[] }) h.objs.size (.dT []) :=
  ⟨Nat.zero_le _, beq_eq_false_iff_ne.mpr (Ne.symm (Nat.ne_of_lt hb)), [], .nil, _, #[], 0, Heap.get?_push_size _ rfl, ⟨rfl, rfl, rfl⟩, rfl, rfl, List.nodup_nil⟩
def tDNewK : TE := fun _ H Q => ∀ p, H p = none -> Q (.ref p) (upd H p (.dK []))
def tDNewT : TE := fun _ H Q => ∀ p, H p = none -> Q (.ref p) (upd H p (.dT []))
section
variable {X : Cx} {pos : Pos}
theorem pe_dnewK : PE X (.Dict [] [] pos) tDNewK := fun pins s σ H Q I h =>
  wpAny_Dict_empty ⟨.ref s.heap.objs.size, _, I.laid (a := s.heap.objs.size) (o := .dK []) (t' := s.toks) (fun _ _ q => Heap.get?_push_of_some _ q) (Nat.le_refl _) (dk_empty s.heap I.big), rfl, h _ (I.hok.fresh (Nat.le_refl _))⟩
theorem pe_dnewT : PE X (.Dict [] [] pos) tDNewT := fun pins s σ H Q I h =>
  wpAny_Dict_empty ⟨.ref s.heap.objs.size, _, I.laid (a := s.heap.objs.size) (o := .dT []) (t' := s.toks) (fun _ _ q => Heap.get?_push_of_some _ q) (Nat.le_refl _) (dt_empty s.heap I.big), rfl, h _ (I.hok.fresh (Nat.le_refl _))⟩
end
def tPairs : List (TE × TE) -> St -> Hp -> (List (V × V) -> Hp -> Prop) -> Prop
  | [], _, H, Q => Q [] H
  | (tk, tv) :: r, σ, H, Q => tk σ H fun x H1 => tv σ H1 fun y H2 => tPairs r σ H2 fun ps H3 => Q ((x, y) :: ps) H3
abbrev VV : List (V × V) -> List (Value × Value) -> Prop := Paired fun p q => RelV p.1 q.1 /\ RelV p.2 q.2
def PPs (X : Cx) (pos : Pos) (keys : List (Option Expr)) (values : List Expr) (trs : List (TE × TE)) : Prop :=
  ∀ (pins : List (Addr × Obj)) (s : Shared) (σ : St) (H : Hp) (Q : List (V × V) -> Hp -> Prop), Inv X pins σ H s -> tPairs trs σ H Q ->
    wpAny (model X.prog X.w) X.A (evalPairs (pairTrees keys values X.env pos)) (fun vs s' => ∃ ps H', Inv X pins σ H' s' /\ VV ps vs /\ Q ps H') X.xe s
theorem pps_nil {X : Cx} {pos : Pos} : PPs X pos [] [] [] := fun pins s σ H Q I h => pairTrees_nil_walk ⟨[], H, I, .nil, h⟩
theorem pps_cons {X : Cx} {pos : Pos} {k v : Expr} {ks : List (Option Expr)} {vs : List Expr} {tk tv : TE} {trs : List (TE × TE)} (hk : PE X k tk) (hv : PE X v tv) (hr : PPs X pos ks vs trs) :
    PPs X pos (some k :: ks) (v :: vs) ((tk, tv) :: trs) := fun pins s σ H Q I h =>
  pairTrees_cons_walk (thn (hk pins s σ H _ I h) fun u s1 ⟨x, H1, I1, rx, q1⟩ => thn (hv pins s1 σ H1 _ I1 q1) fun w2 s2 ⟨y, H2, I2, ry, q2⟩ =>
    thn (hr pins s2 σ H2 _ I2 q2) fun ws s3 ⟨ps, H3, I3, rel, q3⟩ => ⟨(x, y) :: ps, H3, I3, .cons ⟨rx, ry⟩ rel, q3⟩)
def mergeK (kvs more : List (Key × V)) : List (Key × V) := more.foldl (fun acc kv => putK acc kv.1 kv.2) kvs
theorem KV.merge : ∀ {more : List (Key × V)} {rs : List (Key × Value)} {kvs : List (Key × V)} {vs : List (Key × Value)}, KV more rs -> KV kvs vs -> KV (mergeK kvs more) (merged vs rs) := by
  intro more rs kvs vs r
  unfold KV at r
  induction r generalizing kvs vs with
  | nil => intro q; exact q
  | @cons p q ps qs h t ih =>
    intro r0
    have e : KV (putK kvs p.1 p.2) (stored vs q.1 q.2) := by
      have := r0.put p.1 h.2; rw [<- h.1]; exact this
    exact ih e
theorem length_mergeK : ∀ (more kvs : List (Key × V)), (mergeK kvs more).length <= kvs.length + more.length
  | [], kvs => by show kvs.length <= kvs.length + 0; omega
  | p :: r, kvs => by
    have h1 := length_mergeK r (putK kvs p.1 p.2); have h2 := length_putK kvs p.1 p.2
    show (mergeK (putK kvs p.1 p.2) r).length <= _
    rw [List.length_cons]; omega
theorem carries_of {P : Program} {w : World} : ∀ {kvs : List (Key × V)} {ws : List (Value × Value)}, VV (kvs.map fun kv => (kV kv.1, kv.2)) ws -> ∃ rs, Carries (mixKind P w) ws rs /\ KV kvs rs
  | [], _, r => by rw [List.map_nil] at r; cases r; exact ⟨[], True.intro, .nil⟩
  | p :: kvs, _, r => by
    rw [List.map_cons] at r
    cases r with
    | @cons a b as bs h t =>
      obtain ⟨rs, c, q⟩ := carries_of (P := P) (w := w) t; obtain ⟨b1, b2⟩ := b; exact ⟨(p.1, b2) :: rs, ⟨kV_is h.1, rfl, c⟩, .cons ⟨rfl, h.2⟩ q⟩
def tDisp (trs : List (TE × TE)) : TE := fun σ H Q => ∀ p, H p = none -> tPairs trs σ (upd H p (.dK [])) fun ps H2 => H2 p = some (.dK []) /\ ∃ kvs : List (Key × V), ps = kvs.map (fun kv => (kV kv.1, kv.2)) /\ kvs.length <= 15 /\ Q (.ref p) (upd H2 p (.dK (mergeK [] kvs)))
theorem pe_disp {X : Cx} {pos : Pos} {keys : List (Option Expr)} {values : List Expr} {trs : List (TE × TE)} (h : PPs X pos keys values trs) (hall : keys.all (·.isSome) = true) (hl : keys.length = values.length) (h0 : keys ≠ [])
    (h15 : keys.length <= 15) : PE X (.Dict keys values pos) (tDisp trs) := by
  intro pins s σ H Q I q; have hn := I.hok.fresh (Nat.le_refl s.heap.objs.size); have I1 := I.laid (a := s.heap.objs.size) (o := .dK []) (h' := s.heap.push { cls := .type "dict", data := .dict #[] }) (t' := s.toks) (fun _ _ q => Heap.get?_push_of_some _ q) (Nat.le_refl _) (dk_empty s.heap I.big); refine wpAny_Dict_walk (knd := mixKind X.prog X.w) hall hl h0 h15 (thn (h pins _ σ _ _ I1 (q _ hn)) fun ws s2 ⟨ps, H2, I2, rel, e, kvs, ep, lk, q2⟩ => ?_); subst ep; obtain ⟨rs, c, rk⟩ := carries_of (P := X.prog) (w := X.w) rel; refine hld fun g_ k_ => ?_; obtain ⟨z, hd, vs0, r0, dd⟩ := dk_of I2.hok e; refine k_ ?_
  cases r0
  refine ⟨rs, c, dd, fun h' dd' hs => ⟨.ref s.heap.objs.size, _, ?_, rfl, q2⟩⟩
  have hz : (mergeK [] kvs).length <= sizeLine := by
    have h1 := length_mergeK kvs []; rw [List.length_nil] at h1; rw [sizeLine_eq]; omega
  have he : ∃ q, h'.get? s.heap.objs.size = some q := let ⟨q, _, _, hq, _⟩ := dd'; ⟨q, hq⟩; exact d_write I2 (by rw [e]; exact True.intro) hs he (dk_new hz hd (rk.merge .nil) dd')
structure M1 (X : Cx) (o : Expr) (m : Str) (apos : Pos) (e : Expr) (cpos : Pos) : Prop where
  base : attributeBase o m X.env (eval o X.env) = eval o X.env
  few : ((backTo cpos (starEach [e] X.env)).all (fun x => !x.1) && (backToKw cpos (keywordEach [] X.env)).all (fun x => x.1.isSome)
    && decide (([e] : List Expr).length + ([] : List Keyword).length + (if ([] : List Keyword).isEmpty then 0 else 1) < 30)) = true
  line : (apos.endLine == cpos.line) = true
  trees : backTo cpos (starEach [e] X.env) = [(false, eval e X.env)]
end L2
namespace L2
open PySem PySem.Spec PyProof.Rows
end L2
namespace PySem
end PySem
namespace L2
open PySem PySem.Spec PyProof.Rows
end L2
namespace L2
open PySem PySem.Spec PyProof.Rows
section
variable {X : Cx}
inductive rEqT (K : PySem.W.Frag) (x : V) (y : V) (H : Hp) (Q : VK) : Prop
  | mk (a : _) (b : _) (xs : _) (ys : _) (z1_ : x = .ref a) (z2_ : y = .ref b) (z3_ : SqT K H a xs) (z4_ : SqT K H b ys) (z5_ : xs.all flatV = true) (z6_ : ys.all flatV = true) (z7_ : Q (.bl (eqL xs ys)) H) : rEqT K x y H Q
theorem op_eqT (hu : X.A.units < cLine) : OpR X (compareOp .Eq) (rEqT X.K) := by
  intro pins s σ H x y v u Q I rx ry h; obtain ⟨a, b, xs, ys, rfl, rfl, ha, hb, f1, f2, q⟩ := h
  cases rx
  cases ry
  refine hld fun g_ k_ => ?_; obtain ⟨its, r, pl, _⟩ := I.tuple ha; refine k_ ?_; refine hld fun g_ k_ => ?_; obtain ⟨its2, r2, pl2, _⟩ := I.tuple hb; refine k_ ?_; have l1 := r.length; have l2 := r2.length; refine SeqAt.eq_tupleAt pl pl2 hu (eq_each r r2 f1 f2) ⟨.bl (eqL xs ys), H, I, ?_, q⟩
  show Value.bool _ = Value.bool _
  unfold eqL
  rw [List.size_toArray, List.size_toArray, <- l1, <- l2]
  by_cases hs : xs.length = ys.length
  . rw [hs, Nat.min_self, Bool.and_comm]
  . rw [show (xs.length == ys.length) = false from beq_eq_false_iff_ne.mpr hs, Bool.and_false, Bool.false_and]
end
end L2
namespace L2
open PySem PySem.Spec PyProof.Rows
section
variable {M : Model} {A : Around} {E : Value -> Shared -> Prop} {s : Shared}
theorem setFlight_any {B : Heap} {l : List Env} {e : Addr} {cls a0 fl : Value} {fr : Option Addr} {Q : Unit -> Shared -> Prop} (hkb : B.StaysIn s.heap) (hl : s.heap.FunFrames B l) (ht : s.heap.TracedAtW B e cls a0 fl)
    (h : ∀ h' fl', B.StaysIn h' -> h'.FunFrames B l -> h'.TracedAtW B e cls a0 fl' -> s.heap.UpToSlots h' -> Q () { s with heap := h' }) : wpAny M A (setFlight (.ref e) fr) Q E s := by
  refine hld fun g_ k_ => ?_; obtain ⟨oe, vs, T, oT, ts, he, hcls, hd, h1, hnT, hTe, hT, hdT, h3⟩ := ht; refine k_ ?_; have hsz3 : 3 < ts.size := (Array.getElem?_eq_some_iff.mp h3).1; have other : ∀ b, b ≠ T -> (s.heap.update T (Obj.mapFields (·.setIfInBounds 3 (fr.elim Value.none fun f => rawInt f)))).get? b = s.heap.get? b := fun b hb => Heap.get?_update_other _ _ (Ne.symm hb)
  have noRec : ∀ b o, s.heap.get? b = some o -> (∀ vs, o.data ≠ .fields vs) -> b ≠ T := fun b o hb hnf q => by
    rw [q, hT] at hb; injection hb with hb; subst hb; exact hnf ts hdT
  unfold setFlight
  refine wpAny_bind (wpAny_field he hd h1 ?_); rw [if_pos (show (Value.ref T != Value.none) = true from by simp)]
  refine wpAny_setField hT hdT hsz3 (h _ (fr.elim Value.none fun f => rawInt f) (fun b o hbo => (other b fun q => by rw [q, hnT] at hbo; cases hbo).trans (hkb b o hbo))
    (hl.of_keeps fun b o hb hnf => ⟨o, (other b (noRec b o hb hnf)).trans hb, rfl⟩) ?_ fun b o hb hnf => ⟨o.slots, (other b (noRec b o hb hnf)).trans hb⟩)
  exact ⟨oe, vs, T, _, _, (other e (Ne.symm hTe)).trans he, hcls, hd, h1, hnT, hTe, Heap.get?_update_self _ hT (Obj.isFreed_of_fields (Obj.data_mapFields hdT _)), Obj.data_mapFields hdT _, by simp [hsz3]⟩
theorem leaving_any {B : Heap} {env : Env} {outer : List Env} {L e : Addr} {cls a0 fl : Value} {Q : Unit -> Shared -> Prop} (hfr : A.frames = some (env :: outer)) (hf : env.frame = some L) (hkb : B.StaysIn s.heap) (hen : B.get? e = none)
    (hl : s.heap.FunFrames B (env :: outer)) (ht : s.heap.TracedAtW B e cls a0 fl) (hQ : ∀ h', Heap.FlyingW B outer e cls a0 h' -> s.heap.UpToSlots h' -> Q () { s with heap := h' }) : wpAny M A (leaving env (.ref e)) Q E s := by
  refine hld fun g_ k_ => ?_; obtain ⟨oe, vs, T, oT, ts, he, ⟨hcls, h0⟩, hd, h1, hnT, hTe, hT, hdT, h3⟩ := id ht; refine k_ ?_
  unfold leaving noteFrame
  simp only [hf]
  refine wpAny_bind (wpAny_bind (wpAny_field he hd h1 ?_)); rw [if_pos (show (Value.ref T != Value.none) = true from by simp)]
  refine wpAny_bind (wpAny_field hT hdT h3 ?_)
  by_cases hb : (fl == rawInt L) = true
  . rw [if_pos hb]
    refine wpAny_pure ?_; exact wpAny_setFlight_noneW hkb hl ht fun h' x1 x2 x3 x4 => hQ h' ⟨x1, hen, x2.2.2, x3⟩ fun b o q hn => ⟨o.slots, x4 b o q hn⟩
  . rw [if_neg hb]
    refine wpAny_bind (wpAny_setField hT hdT (Array.getElem?_eq_some_iff.mp h3).1 ?_); have other : ∀ b, b ≠ T -> (s.heap.update T (Obj.mapFields (·.setIfInBounds 3 Value.none))).get? b = s.heap.get? b := fun b hb => Heap.get?_update_other _ _ (Ne.symm hb)
    have noRec : ∀ b o, s.heap.get? b = some o -> (∀ vs, o.data ≠ .fields vs) -> b ≠ T := fun b o hb hnf q => by
      rw [q, hT] at hb; injection hb with hb; subst hb; exact hnf ts hdT
    subst hcls
    refine wpAny_newEntryW hfr (hl.of_keeps fun b o hb hnf => ⟨o, (other b (noRec b o hb hnf)).trans hb, rfl⟩) hf ((other e (Ne.symm hTe)).trans he)
      (fun b o hbo => (other b fun q => by rw [q, hnT] at hbo; cases hbo).trans (hkb b o hbo)) hen hd (Array.getElem?_eq_some_iff.mp h1).1 h0
      fun h' ⟨x1, x2, x3, x4⟩ => hQ h' ⟨x1, hen, x2.2.2, x3⟩ fun b o q hn => x4 b o ((other b (noRec b o q hn)).trans q) hn
end
theorem frames_same {h h' B : Heap} : ∀ {l : List Env}, h.FunFrames B l -> (∀ b ∈ frs l, h'.get? b = h.get? b) -> h'.FunFrames B l
  | [], _, _ => trivial
  | env :: rest, ⟨k, ⟨L, o, hf, hn, ho, hd⟩, hr⟩, e => by
    have hin : L ∈ frs (env :: rest) := List.mem_filterMap.mpr ⟨env, List.mem_cons_self, hf⟩
    exact ⟨k, ⟨L, o, hf, hn, by rw [e L hin]; exact ho, hd⟩, frames_same hr fun b hb => e b (by
      obtain ⟨x, hx, q⟩ := List.mem_filterMap.mp hb; exact List.mem_filterMap.mpr ⟨x, List.mem_cons_of_mem _ hx, q⟩)⟩
theorem un_flyX {P : Program} {w : World} {H H' : Hp} {h0 h1 h2 : Heap} {fs ex : List Addr} (u : Un fs ex H H' h0 h1) (hok : HOk P w H' h1) (frf : ∀ b ∈ fs, H' b = none)
    (ka : ∀ b ob, h1.get? b = some ob -> b ∉ fs -> ((b ∉ ex /\ ∃ o0, h0.get? b = some o0) \/ H' b ≠ none) -> h2.get? b = some ob)
    (kb : ∀ b ∈ fs, ∀ ob, h1.get? b = some ob -> ∃ sl, h2.get? b = some { ob with slots := sl }) : Un fs ex H H' h0 h2 /\ HOk P w H' h2 := by
  refine ⟨⟨fun b ob e n hb hx => ka b ob (u.keep b ob e n hb hx) hb (.inl ⟨hx, _, e⟩), fun b ob e n hb hx => ?_, u.free, fun b ob e hx => ?_, u.tups, u.frzs, u.tbls⟩, fun b u' e => ?_⟩
  . obtain ⟨sl, e1⟩ := u.slot b ob e n hb hx
    obtain ⟨sl2, e2⟩ := kb b hb _ e1; exact ⟨sl2, e2⟩
  . obtain ⟨o1, e1⟩ := u.there b ob e hx
    by_cases hb : b ∈ fs
    . obtain ⟨sl, e2⟩ := kb b hb _ e1
      exact ⟨_, e2⟩
    . exact ⟨_, ka b o1 e1 hb (.inl ⟨hx, _, e⟩)⟩
  . refine (hok b u' e).stay (fun c v hc q => ?_) (fun _ q => q) fun _ _ q => q
    have hn : H' c ≠ none := by
      rcases hc with z | z
      . rw [z, e]; exact fun y => nomatch y
      . rw [z]; exact fun y => nomatch y
    exact ka c v q (fun hb => hn (frf c hb)) (.inr hn)
structure CFly (X : Cx) (H1 : Hp) (s₂ : Shared) (fp : List Addr) (C : Addr) (H' : Hp) (a : Addr) (cls a0 fl : Value) (B : Heap) (s' : Shared) : Prop where
  os : s'.os = s₂.os
  bare : AllBare s'.gens
  un : Un (frs X.stack) fp H1 H' s₂.heap s'.heap
  hok : HOk X.prog X.w H' s'.heap
  stays : B.StaysIn s'.heap
  hen : B.get? a = none
  ff : s'.heap.FunFrames B X.stack
  tr : s'.heap.TracedAtW B a cls a0 fl
  cov : ∀ b ob, s'.heap.get? b = some ob -> b ∉ frs X.stack -> b ≠ C -> ((b ∉ fp /\ ∃ o0, s₂.heap.get? b = some o0) \/ H' b ≠ none) -> B.get? b = some ob
  frf : ∀ b ∈ frs X.stack, H' b = none
  cn : H' C = none
  cb : B.get? C = none
section
variable {X : Cx} {H1 H' : Hp} {s₂ s' : Shared} {fp : List Addr} {C a : Addr} {cls a0 fl fl' : Value} {B h2 : Heap}
theorem CFly.there (F : CFly X H1 s₂ fp C H' a cls a0 fl B s') {b : Addr} (h : (b ∉ fp /\ ∃ o0, s₂.heap.get? b = some o0) \/ H' b ≠ none) : ∃ o1, s'.heap.get? b = some o1 := by
  rcases h with ⟨hx, o0, h0⟩ | hn
  . exact F.un.there b o0 h0 hx
  . cases q : H' b with
    | none => exact absurd q hn
    | some u => exact (F.hok b u q).ex
theorem ns_slots {m : Str -> Option Value} {h h' : Heap} (n : h.Ns C m) (k : h.UpToSlots h') : h'.Ns C m := by
  refine hld fun g_ k_ => ?_; obtain ⟨o, es, ep, e, d, r⟩ := n; refine k_ ?_; obtain ⟨sl, e'⟩ := k C o e (fun vs z => by rw [d] at z; cases z)
  exact ⟨_, es, ep, e', d, r⟩
theorem CFly.turn (hC : s₂.heap.objs.size <= C) (F : CFly X H1 s₂ fp C H' a cls a0 fl B s') (k1 : B.StaysIn h2) (k2 : h2.FunFrames B X.stack) (k3 : h2.TracedAtW B a cls a0 fl') (k4 : s'.heap.UpToSlots h2) : CFly X H1 s₂ fp C H' a cls a0 fl' B { s' with heap := h2 } := by
  have nC : ∀ b, ((b ∉ fp /\ ∃ o0, s₂.heap.get? b = some o0) \/ H' b ≠ none) -> b ≠ C := fun b h z => by
    rcases h with ⟨_, o0, h0⟩ | hn
    . have := Heap.lt_size h0
      rw [z] at this; exact absurd this (Nat.not_lt.mpr hC)
    . rw [z] at hn
      exact hn F.cn
  have ka : ∀ b ob, s'.heap.get? b = some ob -> b ∉ frs X.stack -> ((b ∉ fp /\ ∃ o0, s₂.heap.get? b = some o0) \/ H' b ≠ none) -> h2.get? b = some ob := fun b ob q hb hc => k1 b ob (F.cov b ob q hb (nC b hc) hc)
  have z := un_flyX F.un F.hok F.frf ka (fun b hb ob q => by
    refine hld fun g_ k_ => ?_; obtain ⟨_, o', ho', hnf⟩ := F.ff.mem hb; refine k_ ?_; rw [q] at ho'
    cases ho'
    exact k4 b ob q hnf)
  refine ⟨F.os, F.bare, z.1, z.2, k1, F.hen, k2, k3, fun b ob q hb hbC hc => ?_, F.frf, F.cn, F.cb⟩; obtain ⟨o1, q1⟩ := F.there hc; have h3 := F.cov b o1 q1 hb hbC hc; have h4 := k1 b o1 h3; have h5 : h2.get? b = some ob := q; rw [h5] at h4
  cases h4
  exact h3
theorem CFly.drop (hC : s₂.heap.objs.size <= C) (hfC : C ∉ frs X.stack) (F : CFly X H1 s₂ fp C H' a cls a0 fl B s') (hns : ∃ m, s'.heap.Ns C m) (hs : Heap.SameBut C s'.heap h2) : CFly X H1 s₂ fp C H' a cls a0 fl B { s' with heap := h2 } := by
  refine hld fun g_ k_ => ?_; obtain ⟨m, oc, es, ep, ec, dc, _⟩ := hns; refine k_ ?_
  have nC : ∀ b, ((b ∉ fp /\ ∃ o0, s₂.heap.get? b = some o0) \/ H' b ≠ none) -> b ≠ C := fun b h z => by
    rcases h with ⟨_, o0, h0⟩ | hn
    . have := Heap.lt_size h0
      rw [z] at this; exact absurd this (Nat.not_lt.mpr hC)
    . rw [z] at hn
      exact hn F.cn
  have hfr : ∀ b ∈ frs X.stack, h2.get? b = s'.heap.get? b := fun b hb => hs.2 b fun z => hfC (by rw [<- z]; exact hb)
  have z := un_flyX (h2 := h2) F.un F.hok F.frf (fun b ob q hb hc => (hs.2 b (nC b hc)).trans q) (fun b hb ob q => ⟨ob.slots, (hfr b hb).trans q⟩); refine hld fun g_ k_ => ?_; obtain ⟨oe, vs, T, oT, ts, he, hcls, hd, h1, hnT, hTe, hT, hdT, h3⟩ := F.tr; refine k_ ?_; have eC : a ≠ C := fun z => by rw [z, ec] at he; cases he; rw [dc] at hd; cases hd
  have tC : T ≠ C := fun z => by rw [z, ec] at hT; cases hT; rw [dc] at hdT; cases hdT
  exact ⟨F.os, F.bare, z.1, z.2, fun b o q => (hs.2 b (fun y => by rw [y, F.cb] at q; cases q)).trans (F.stays b o q), F.hen, frames_same F.ff hfr,
    ⟨oe, vs, T, oT, ts, (hs.2 a eC).trans he, hcls, hd, h1, hnT, hTe, (hs.2 T tC).trans hT, hdT, h3⟩, fun b ob q hb hbC hc => F.cov b ob ((hs.2 b hbC).symm.trans q) hb hbC hc, F.frf, F.cn, F.cb⟩
end
def compCxE (X : Cx) (N' : List Str) (scope : Scope) (cl : List (Str × Addr)) (C : Addr) (s₀ : Shared) (H₀ : Hp) (fp : List Addr) (xe : Value -> Shared -> Prop) : Cx := (compCx X N' scope cl C s₀ H₀ fp).wish xe
def XBlock (X : Cx) (H1 : Hp) (s₂ : Shared) (fp : List Addr) (C : Addr) (E : XK) (e : Value) (s' : Shared) : Prop :=
  ∃ a cls a0 H' B, e = .ref a /\ CFly X H1 s₂ fp C H' a cls a0 .none B s' /\ (∃ m, s'.heap.Ns C m) /\ E cls none H'
section
variable {X : Cx} {elt tg iter : Expr} {ifs : List Expr} {scope : Scope} {cl : List (Str × Addr)} {N' : List Str} {js : List (Option Nat)} {pos : Pos} {g : TG} {ti : TT} {te : TE} {E : XK}
theorem pass_comp {s₂ : Shared} {H1 : Hp} {fp : List Addr} {C : Addr} : Passes (CXe X.prog X.w) (compCxE X N' scope cl C s₂ H1 fp (XBlock X H1 s₂ fp C E)) E := by
  intro pins' τ H s e s' I2 hcx; refine hld fun g_ k_ => ?_; obtain ⟨a, cls, a0, H', B, rfl, os, bare, un, hok, frf, hfl, cov, hE⟩ := hcx; refine k_ ?_; have I' := I2.call' (ch := []) os un hok bare (fun b z => absurd z (by simp))
  have st : (PySem.W.hideAll B [C]).StaysIn B := fun b o q => PySem.W.of_hideAll _ q; refine hld fun g_ k_ => ?_; obtain ⟨f1, f2, f3, f4⟩ := PySem.W.flyingW_base st hfl; refine k_ ?_; have hcn : H' C = none := I'.free; refine ⟨a, cls, a0, H', PySem.W.hideAll B [C], rfl, ⟨I'.os, bare, I'.base, hok, f1, f2, f3, f4, fun b ob q hb hbC hc => ?_, frf, hcn, PySem.W.hideAll_none _ (List.mem_singleton.mpr rfl)⟩, ?_, hE⟩
  . refine PySem.W.hideAll_get _ (cov b ob q hb ?_) (fun z => hbC (List.mem_singleton.mp z))
    rcases hc with ⟨hx, o0, h0⟩ | hn
    . exact .inl (I2.base.there b o0 h0 hx)
    . exact .inr hn
  . obtain ⟨m, hn, _⟩ := I'.loc
    exact ⟨m, hn⟩
theorem comp_blockE {pins : List (Addr × Obj)} {σ : St} {H1 : Hp} {s₂ : Shared} {it : Addr} {fp : List Addr} {tn : Nat -> Heap -> Prop} {J : It} {Q : VK} {RR : Value -> Addr -> Result -> Shared -> Prop} {E' : Value -> Shared -> Prop}
    (K : CompOk X scope cl N' js) (hc : X.calm = true) (I : Inv X pins σ H1 s₂) (T : Turn X.prog X.w X.K tg J fp it tn) (st : tn 0 s₂.heap) (hf : ∀ b ∈ fp, FpOk X pins H1 b)
    (hg : ∀ C s₀ H₀ fp, PG (compCx X N' scope cl C s₀ H₀ fp) tg g) (hi : ∀ C s₀ H₀ fp, PIf (compCx X N' scope cl C s₀ H₀ fp) ifs ti)
    (he : ∀ C s₀ H₀ fp xe, Passes (CXe X.prog X.w) (compCxE X N' scope cl C s₀ H₀ fp xe) E -> PE (compCxE X N' scope cl C s₀ H₀ fp xe) elt te)
    (hW : CompW J js g ti te σ H1 Q)
    (hRR : ∀ D C s' H', Inv X pins σ H' s' -> (∃ m, s'.heap.Ns C m) -> FpOk X pins H' C -> Q (.ref D) H' -> RR (.ref D) C (.ok .next) s')
    (hRE : ∀ D C e s', s₂.heap.objs.size <= C -> C ∉ frs X.stack -> XBlock X H1 s₂ fp C E e s' -> notedBy (model X.prog X.w) X.A (compEnvC scope cl C X.env) (fun e s' => RR (.ref D) C (.error e) s') e s') :
    wpAny (model X.prog X.w) X.A (newList []) (fun acc s₃ => wpAny (model X.prog X.w) X.A (newFunctionEnv scope X.env.globals cl [] X.env.qual none .none (some X.env)) (fun cenv s₄ =>
      codeAny (model X.prog X.w) X.A (.compStart (.ListComp elt [⟨tg, iter, ifs, 0⟩] scope pos) 0 (.ref it) acc { cenv with scope := relabel scope X.env }) (RR acc cenv.locals) s₄) E' s₃) E' s₂ := by
  refine wpAny_newObj_type (wpAny_newFunctionEnv K.nocell (by intro y hy; simp at hy) (fun h₁ hns₁ hsb₁ => ?_) K.kind)
  dsimp only at hns₁ hsb₁ ⊢
  generalize hH2 : s₂.heap.push { cls := .type "list", dict := none, data := .seq ([] : List Value).toArray } = H2 at hns₁ hsb₁ ⊢; have hC : H2.objs.size = s₂.heap.objs.size + 1 := by rw [<- hH2, Heap.size_push]
  have hlt : s₂.heap.objs.size < H2.objs.size := by rw [hC]; exact Nat.lt_succ_self _
  have below : ∀ b, b < s₂.heap.objs.size -> b ≠ H2.objs.size := fun b hb => Nat.ne_of_lt (Nat.lt_trans hb hlt); have old : ∀ b o, s₂.heap.get? b = some o -> h₁.get? b = some o := fun b o e => hsb₁.extBut b o (below b (Heap.lt_size e)) (Heap.get?_push_of_some _ (hH2 ▸ Heap.get?_push_of_some _ e)); have acc : h₁.get? s₂.heap.objs.size = some { cls := .type "list", data := .seq ([] : List Value).toArray } := hsb₁.extBut _ _ (Nat.ne_of_lt hlt) (Heap.get?_push_of_some _ (hH2 ▸ Heap.get?_push_size _ rfl))
  have hfl : ∀ b ∈ fp, b < s₂.heap.objs.size := fun b hb => by
    obtain ⟨o, q, _⟩ := T.obj 0 _ st b hb; exact Heap.lt_size q
  have hCs : H2.objs.size ∉ frs X.stack := fun hm => by
    refine hld fun g_ k_ => ?_; obtain ⟨_, o', ho', _⟩ := I.stack.mem hm; refine k_ ?_; exact absurd (Nat.lt_trans hlt (Heap.lt_size ho')) (Nat.lt_irrefl _)
  refine hld fun g_ k_ => ?_; obtain ⟨W, ⟨m0, w0⟩, turn⟩ := hW s₂.heap.objs.size (I.hok.fresh (Nat.le_refl _)); refine k_ ?_
  have stat : ∀ {H' : Hp}, (∀ b ∈ fp, H' b = none) -> ∀ b ∈ fp, FpOk (compCx X N' scope cl H2.objs.size s₂ H1 fp) [] H' b := fun hn b hb =>
    ⟨hn b hb, below b (hfl b hb), fun z => (List.mem_cons.mp (I.stkSub b z)).elim (hf b hb).2.1 (hf b hb).2.2.1, .inl hb, fun x c e => (hf b hb).2.2.2.2.1 x c (K.cells x c e), fun p hp => absurd (show p ∈ ([] : List (Addr × Obj)) from hp) (by simp)⟩
  have loop : ∀ s₃ : Shared, s₃ = { s₂ with heap := h₁, toks := s₂.toks + ([] : List (Str × Value)).length } ->
      codeAny (model X.prog X.w) X.A (.compLoop (.ListComp elt [⟨tg, iter, ifs, 0⟩] scope pos) 0 (.ref it) (.ref s₂.heap.objs.size) (compEnvC scope cl H2.objs.size X.env))
        (RR (.ref s₂.heap.objs.size) H2.objs.size) s₃ := by
    rintro s₃ rfl
    have I0 := comp_start (tk := s₂.toks + ([] : List (Str × Value)).length) K I hf hfl hlt old hns₁ acc
    refine codeAny_loop rfl (fun n s' => ∃ i ys τ H', Inv (compCx X N' scope cl H2.objs.size s₂ H1 fp) [] τ H' s' /\ tn i s'.heap /\ (∀ b ∈ fp, H' b = none) /\ W i n ys τ H') (fun n s' hI => ?_) m0
      ⟨0, [], outSt js σ, _, I0, T.keep _ _ _ st (fun b _ o e => old b o e), fun b hb => by rw [upd_ne (Nat.ne_of_lt (hfl b hb))]; exact (hf b hb).1, w0⟩
    refine hld fun g_ k_ => ?_; obtain ⟨i, ys, τ, H', I', st', fr', w'⟩ := hI; refine k_ ?_
    show wpAny _ X.A ((compTurn (.ListComp elt [⟨tg, iter, ifs, 0⟩] scope pos) 0 (.ref it) (.ref s₂.heap.objs.size) (compEnvC scope cl H2.objs.size X.env)).onRaise (fun x => do noteFrame x (compEnvC scope cl H2.objs.size X.env); theTreesLotGoes x)) _ _ s'
    refine wpAny_noted ?_; rw [compTurn_list]; refine wpAny_bind (wpAny_standAt (wpAny_bind ?_))
    rcases turn i n ys τ H' w' with ⟨stop, qn⟩ | ⟨go, step⟩
    . refine wpAny_mono (T.done (compCx X N' scope cl H2.objs.size s₂ H1 fp) rfl rfl rfl hc i [] s' τ H' _ I' (stat fr') st' stop) (fun r s4 hr => ?_) fun _ _ e => e
      obtain ⟨hr, I4⟩ := hr; subst hr; refine wpAny_pure ?_; have u : Un (frs X.stack) fp H1 H' s₂.heap s4.heap := I4.base; refine hRR _ _ s4 H' (I.call' (ch := fp) I4.os u I4.hok I4.bare fun b hb => ⟨(hf b hb).2.2.2.1, (hf b hb).2.1, (hf b hb).2.2.2.2.1, (hf b hb).2.2.2.2.2⟩) ?_ (I.fpOk (Nat.le_of_lt hlt) I4.free) qn; obtain ⟨m, hn, _⟩ := I4.loc; exact ⟨m, hn⟩
    . refine wpAny_mono (T.item (compCx X N' scope cl H2.objs.size s₂ H1 fp) rfl rfl rfl hc i [] s' τ H' _ I' (stat fr') st' go) (fun r s4 hr => ?_) fun _ _ e => e
      obtain ⟨u, hr, h4⟩ := hr; subst hr; refine wpAny_bind (wpAny_mono h4 (fun _ s5 h5 => ?_) fun _ _ e => e); refine hld fun g_ k_ => ?_; obtain ⟨x, H5, I5, r5, y5, st5, fr5⟩ := h5; refine k_ ?_; have I5' := I5.pinned (stat fr5) (T.obj _ _ st5)
      have again : ∀ {s7 : Shared} {τ7 : St} {H7 : Hp} {zs : List V} {m' : Nat}, m' < n -> Inv (compCx X N' scope cl H2.objs.size s₂ H1 fp) ([] ++ pinsAt fp s5.heap) τ7 H7 s7 -> W (i + 1) m' zs τ7 H7 ->
          ∃ m, m < n /\ ∃ i ys τ H', Inv (compCx X N' scope cl H2.objs.size s₂ H1 fp) [] τ H' s7 /\ tn i s7.heap /\ (∀ b ∈ fp, H' b = none) /\ W i m ys τ H' := fun {s7 τ7 H7 zs m'} hm I7 w7 => by
        refine ⟨m', hm, i + 1, zs, τ7, H7, I7.unpinned, T.keep _ _ _ st5 fun b hb o e => (I7.pin (b, o) (List.mem_append_right _ (List.mem_append_right _ (mem_pinsAt hb e)))).1, fun b hb => ?_, w7⟩; obtain ⟨o, e, d⟩ := T.obj _ _ st5 b hb; exact (I7.pin (b, o) (List.mem_append_right _ (List.mem_append_right _ (mem_pinsAt hb e)))).2.1
      refine wpAny_bind (thnE (hg _ _ _ _ _ s5 τ H5 x u _ I5' r5 (step x H5 y5)) fun _ s6 h6 => ?_); refine hld fun g_ k_ => ?_; obtain ⟨σ6, H6, I6, q6⟩ := h6; refine k_ ?_; refine wpAny_bind (thnE (hi _ _ _ _ _ s6 σ6 H6 _ I6 q6) fun ok s7 h7 => ?_); obtain ⟨H7, I7, q7⟩ := h7
      cases ok with
      | false =>
        rw [if_neg Bool.false_ne_true] at q7; obtain ⟨m', hm, w7⟩ := q7; exact wpAny_pure ⟨rfl, again hm I7 w7⟩
      | true =>
        rw [if_pos rfl] at q7; refine wpAny_bind (wpAny_bind (wpAny_mono (he H2.objs.size s₂ H1 fp (XBlock X H1 s₂ fp H2.objs.size E) pass_comp _ s7 σ6 H7 _ (I7.wish _) q7) (fun yv s8 h8 => ?_) fun e s8 h8 => hRE _ _ e s8 (Nat.le_of_lt hlt) hCs h8)); refine hld fun g_ k_ => ?_; obtain ⟨y, H8, I8, r8, e8, z8, m', hm, w8⟩ := h8; refine k_ ?_; have I8 := I8.unwish; refine wpAny_bind (thnE (mt_append (X := compCx X N' scope cl H2.objs.size s₂ H1 fp) _ s8 σ6 H8 (.ref s₂.heap.objs.size) [y] (.ref s₂.heap.objs.size) [yv] (fun v H9 => H9 = upd H8 s₂.heap.objs.size (.lst (ys ++ [y]))) I8 rfl (.cons r8 .nil) ⟨_, ys, y, rfl, rfl, e8, z8, rfl⟩) fun _ s9 h9 => ?_); refine hld fun g_ k_ => ?_; obtain ⟨_, H9, I9, _, e9⟩ := h9; refine k_ ?_; subst e9; exact wpAny_pure (wpAny_pure ⟨rfl, again hm I9 w8⟩)
  exact codeAny_compStart_list (loop _ rfl) (T.self _ 0 _ _ _ (T.keep _ _ _ st fun b _ o e => old b o e) (loop _ rfl))
end
section
variable {P : Program} {w : World} {K : PySem.W.Frag} {mg : Str -> Option Value} {base : Heap} {N : List Str} {qual : Str} {scope0 : Scope} {f : Addr} {cd : Value} {A : Around} {outer : List Env} {s0 : Shared} {H0 : Hp} {E : XK}
theorem leavesX {pins : List (Addr × Obj)} {σ : St} {H' : Hp} {s' : Shared} {a : Addr} {cls a0 fl : Value} {B : Heap} (I' : Inv (cxOf (CXe P w) P w K mg base N qual scope0 f cd A outer s0 H0 E) pins σ H' s')
    (k1 : B.StaysIn s'.heap) (k2 : B.get? a = none) (k3 : s'.heap.FunFrames B (envOfC qual scope0 s0.heap.objs.size f cd :: outer)) (k4 : s'.heap.TracedAtW B a cls a0 fl)
    (cov : ∀ b ob, s'.heap.get? b = some ob -> b ∉ frs (envOfC qual scope0 s0.heap.objs.size f cd :: outer) -> ((∃ o0, s0.heap.get? b = some o0) \/ H' b ≠ none) -> B.get? b = some ob) (hE : E cls none H') :
    (cxOf (CXe P w) P w K mg base N qual scope0 f cd A outer s0 H0 E).xe (.ref a) s' := by
  have hfree : ∀ b ∈ frs (envOfC qual scope0 s0.heap.objs.size f cd :: outer), H' b = none := I'.stkFree; have hL : ∀ b ∈ frs (envOfC qual scope0 s0.heap.objs.size f cd :: outer), b = s0.heap.objs.size \/ b ∈ frs outer := fun b hb => List.mem_cons.mp (I'.stkSub b hb); refine leaving_any (L := s0.heap.objs.size) I'.ok.frames rfl k1 k2 k3 k4 fun h' x1 x2 => ?_; have hun : Un (frs outer) [] H0 H' s0.heap s'.heap := I'.base
  have old : ∀ b, b ∉ frs outer -> ((∃ o0, s0.heap.get? b = some o0) \/ H' b ≠ none) -> b ∉ frs (envOfC qual scope0 s0.heap.objs.size f cd :: outer) := by
    intro b hb hc hm
    rcases hL b hm with z | z
    . rcases hc with ⟨o0, h0⟩ | hn
      . rw [z] at h0
        exact absurd (Heap.lt_size h0) (Nat.lt_irrefl _)
      . exact hn (hfree b hm)
    . exact hb z
  have ka : ∀ b ob, s'.heap.get? b = some ob -> b ∉ frs outer -> ((∃ o0, s0.heap.get? b = some o0) \/ H' b ≠ none) -> B.get? b = some ob := fun b ob q hb hc => cov b ob q (old b hb hc) hc
  have z := un_fly hun I'.hok I'.outFree (fun b ob q hb hc => x1.1 b ob (ka b ob q hb hc)) (fun b hb ob q => by
    refine hld fun g_ k_ => ?_; obtain ⟨_, o', ho', hnf⟩ := I'.funs.mem hb; refine k_ ?_; rw [q] at ho'
    cases ho'
    exact x2 b ob q hnf)
  refine ⟨a, cls, a0, H', B, rfl, I'.os, I'.bare, z.1, z.2, I'.outFree, x1, fun b ob q hb hc => ?_, hE⟩
  have hs1 : ∃ o1, s'.heap.get? b = some o1 := by
    rcases hc with ⟨o0, h0⟩ | hn
    . exact I'.base.there b o0 h0 (fun z => absurd (show b ∈ ([] : List Addr) from z) (by simp))
    . cases q1 : H' b with
      | none => exact absurd q1 hn
      | some u' => exact (I'.hok b u' q1).ex
  obtain ⟨o1, q1⟩ := hs1; have h3 := ka b o1 q1 hb hc; have h4 := x1.1 b o1 h3; rw [q] at h4
  cases h4
  exact h3
variable {elt tg iter : Expr} {ifs : List Expr} {scope : Scope} {cl : List (Str × Addr)} {N' : List Str} {js : List (Option Nat)} {pos : Pos} {g : TG} {ti : TT} {te : TE} {wi : TI}
end
def Nx (n i : Nat) (p : Prop) : Prop := ∃ m', m' < n - i /\ m' = n - (i + 1) /\ i + 1 <= n /\ p
theorem Nx.mk {n i : Nat} {p : Prop} (h : i < n) (q : p) : Nx n i p := ⟨_, by omega, rfl, h, q⟩
theorem comp_range {n : Nat} {js : List (Option Nat)} {g : TG} {ti : TT} {te : TE} {σ : St} {H1 : Hp} {Q : VK} (Pv : Addr -> Nat -> List V -> St -> Hp -> Prop)
    (h0 : ∀ D, H1 D = none -> Pv D 0 [] (outSt js σ) (upd H1 D (.lst [])))
    (hs : ∀ D (i : Nat) ys τ H, i < n -> Pv D i ys τ H -> g (.int (i : Int)) τ H fun τ2 H2 => ti τ2 H2 fun b H3 =>
      if b = true then te τ2 H3 fun y H4 => H4 D = some (.lst ys) /\ ys.length < sizeLine /\ Nx n i (Pv D (i + 1) (ys ++ [y]) τ2 (upd H4 D (.lst (ys ++ [y]))))
      else Nx n i (Pv D (i + 1) ys τ2 H3))
    (hd : ∀ D ys τ H, Pv D n ys τ H -> Q (.ref D) H) : CompW (Itr 0 n) js g ti te σ H1 Q := by
  intro D hD; refine ⟨fun i m ys τ H => m = n - i /\ i <= n /\ Pv D i ys τ H, ⟨n, by simp, Nat.zero_le _, h0 D hD⟩, ?_⟩
  rintro i m ys τ H ⟨rfl, hi, p⟩
  by_cases hlt : i < n
  . refine .inr ⟨hlt, fun x H' y => ?_⟩
    obtain ⟨rfl, rfl⟩ := y; rw [Int.zero_add]; exact hs D i ys τ _ hlt p
  . have e : i = n := by omega
    subst e; exact .inl ⟨Nat.le_refl _, hd D ys τ H p⟩
theorem CompOk.free2 {X : Cx} {scope : Scope} {N' : List Str} {js : List (Option Nat)} {x y : Str} {c d : Addr} {nms : List (Str × NameKind)} (kind : scope.kind = .function) (nocell : ∀ y ∈ scope.names, y.2 ≠ .cell)
    (names : ∀ y ∈ scope.names, y.2 = .local -> scope.names.lookup y.1 = some .local) (len : js.length = N'.length) (clos : closureFor scope X.env = pure [(x, c), (y, d)]) (cx : X.env.cells.lookup x = some c) (cy : X.env.cells.lookup y = some d)
    (rl : (relabel scope X.env).names = nms) (only : ∀ p ∈ nms, (p.2 = .cell \/ p.2 = .free) -> p.1 = x \/ p.1 = y)
    (out : ∀ (j i : Nat), js[j]? = some (some i) -> (N'[j]? = some x /\ X.N[i]? = some x) \/ (N'[j]? = some y /\ X.N[i]? = some y)) (ex : X.env.scope.names.lookup x = some .cell) (ey : X.env.scope.names.lookup y = some .cell)
    (sx : nms.lookup x = some .cell \/ nms.lookup x = some .free) (sy : nms.lookup y = some .cell \/ nms.lookup y = some .free) : CompOk X scope [(x, c), (y, d)] N' js where
  kind := kind
  nocell := nocell
  names := names
  len := len
  clos := clos
  cells := fun z c' h => by
    rw [List.lookup_cons] at h
    split at h
    . rename_i e
      have := eq_of_beq e; subst this
      cases h
      exact cx
    . rw [List.lookup_cons] at h
      split at h
      . rename_i e
        have := eq_of_beq e; subst this
        cases h
        exact cy
      . cases h
  has := fun z hz => by
    rw [rl] at hz
    have e : z = x \/ z = y := by
      rcases hz with h | h
      . exact only _ (PySem.mem_of_lookup h) (.inl rfl)
      . exact only _ (PySem.mem_of_lookup h) (.inr rfl)
    by_cases q : z = x
    . subst q
      exact ⟨c, by rw [List.lookup_cons, beq_self_eq_true]⟩
    . have e := e.resolve_left q
      subst e; have hb : (z == x) = false := beq_eq_false_iff_ne.mpr q; exact ⟨d, by rw [List.lookup_cons, hb, List.lookup_cons, beq_self_eq_true]⟩
  out := fun j i h => by
    rcases out j i h with ⟨h1, h2⟩ | ⟨h1, h2⟩
    . exact ⟨x, h1, h2, ex, by rw [rl]; exact sx⟩
    . exact ⟨y, h1, h2, ey, by rw [rl]; exact sy⟩
end L2
namespace L2
open PySem PySem.Spec PyProof.Rows
section
variable {X : Cx}
theorem all_eq_self {zs : List V} (h : zs.all flatV = true) (n : Nat) (hn : n <= zs.length) : (List.range n).all (fun j => eqV (zs.getD j .non) (zs.getD j .non)) = true := by
  rw [List.all_eq_true]; intro j hj; have hj := List.mem_range.mp hj; have hl : j < zs.length := by omega
  refine eqV_self ?_; rw [List.getD_eq_getElem?_getD, List.getElem?_eq_getElem hl]; exact List.all_eq_true.mp h _ (List.getElem_mem hl)
end
end L2
namespace L2
open PySem PySem.Spec PyProof.Rows
theorem argBest_le (bt : Nat -> Nat -> Bool) : ∀ n, argBest bt n <= n
  | 0 => Nat.le_refl _
  | n + 1 => by
    have := argBest_le bt n
    show (if bt (n + 1) (argBest bt n) = true then n + 1 else argBest bt n) <= n + 1
    split <;> omega
theorem argBest_min (val : Nat -> Int) : ∀ n j, j <= n -> val (argBest (fun i j => decide (val i < val j)) n) <= val j
  | 0, j, h => by rw [show j = 0 by omega]; exact Int.le_refl _
  | n + 1, j, h => by
    have ih := argBest_min val n
    show val (if decide (val (n + 1) < val (argBest (fun i j => decide (val i < val j)) n)) = true then n + 1 else argBest (fun i j => decide (val i < val j)) n) <= val j
    by_cases c : val (n + 1) < val (argBest (fun i j => decide (val i < val j)) n)
    . rw [if_pos (decide_eq_true c)]
      by_cases e : j = n + 1
      . rw [e]; exact Int.le_refl _
      . have := ih j (by omega); omega
    . rw [if_neg (by rw [decide_eq_false c]; exact Bool.false_ne_true)]
      by_cases e : j = n + 1
      . rw [e]; omega
      . exact ih j (by omega)
theorem argBest_max (val : Nat -> Int) : ∀ n j, j <= n -> val j <= val (argBest (fun i j => decide (val i > val j)) n)
  | 0, j, h => by rw [show j = 0 by omega]; exact Int.le_refl _
  | n + 1, j, h => by
    have ih := argBest_max val n
    show val j <= val (if decide (val (n + 1) > val (argBest (fun i j => decide (val i > val j)) n)) = true then n + 1 else argBest (fun i j => decide (val i > val j)) n)
    by_cases c : val (n + 1) > val (argBest (fun i j => decide (val i > val j)) n)
    . rw [if_pos (decide_eq_true c)]
      by_cases e : j = n + 1
      . rw [e]; exact Int.le_refl _
      . have := ih j (by omega); omega
    . rw [if_neg (by rw [decide_eq_false c]; exact Bool.false_ne_true)]
      by_cases e : j = n + 1
      . rw [e]; omega
      . exact ih j (by omega)
theorem ints_items : ∀ {ns : List Int} {vs : List Value}, Vals (ns.map V.int) vs -> ∃ xs : List (Int × Tok), vs = xs.map (fun p => Value.int p.1 p.2) /\ xs.map (·.1) = ns
  | [], _, .nil => ⟨[], rfl, rfl⟩
  | n :: ns, v :: vs, .cons r rs => by
    obtain ⟨t, rfl⟩ := r; obtain ⟨xs, h1, h2⟩ := ints_items rs; exact ⟨(n, t) :: xs, by rw [h1]; rfl, by rw [<- h2]; rfl⟩
theorem numAt_of {xs : List (Int × Tok)} {ns : List Int} (h : xs.map (·.1) = ns) {i : Nat} (hi : i < ns.length) : numAt xs.toArray i = ns[i] := by
  subst h; rw [List.length_map] at hi
  unfold numAt
  simp [hi]
section
variable {X : Cx}
inductive rMinL (K : PySem.W.Frag) (xs : (List V)) (H : Hp) (Q : VK) : Prop
  | mk (p : Addr) (ns : List Int) (m : Int) (z1_ : xs = [.ref p]) (z2_ : SqL K H p (ns.map V.int)) (z3_ : m ∈ ns) (z4_ : (∀ n ∈ ns, m <= n)) (z5_ : Q (.int m) H) : rMinL K xs H Q
theorem call_minL (hc : X.calm = true) : CallR X (.builtin "min") (rMinL X.K) := by
  intro pins s σ H xs us Q I r h; obtain ⟨p, ns, m, rfl, hq, hm, hle, q⟩ := h; obtain ⟨u, rfl, rx⟩ := vals1 r
  cases rx
  refine hld fun g_ k_ => ?_; obtain ⟨its, rv, pl, hz⟩ := I.list hq; refine k_ ?_; obtain ⟨ys, h1, h2⟩ := ints_items rv; subst h1; have hlen : ys.length = ns.length := by rw [<- h2, List.length_map]
  have hpos : 0 < ns.length := List.length_pos_of_mem hm
  have hl : s.heap.IsList p (intItems ys.toArray) := by
    have := pl.isList
    unfold intItems
    simpa using this
  refine min_intList (xs := ys.toArray) (I.ok.hd hc) hl (by rw [List.size_toArray, hlen]; exact hpos) fun v h' tk hv k => ⟨.int m, H, I.kept k, ?_, q⟩
  have hb := argBest_le (fun i j => decide (numAt ys.toArray i < numAt ys.toArray j)) (ys.toArray.size - 1); obtain ⟨t, rfl⟩ := intItems_at hv; rw [List.size_toArray, hlen] at hb hv ⊢; have hbl : argBest (fun i j => decide (numAt ys.toArray i < numAt ys.toArray j)) (ns.length - 1) < ns.length := by omega
  have e : numAt ys.toArray (argBest (fun i j => decide (numAt ys.toArray i < numAt ys.toArray j)) (ns.length - 1)) = m := by
    refine Int.le_antisymm ?_ ?_
    . obtain ⟨j, hj⟩ := List.mem_iff_getElem?.mp hm
      obtain ⟨hjl, e⟩ := List.getElem?_eq_some_iff.mp hj; have := argBest_min (numAt ys.toArray) (ns.length - 1) j (by omega)
      rw [numAt_of h2 hjl, e] at this; exact this
    . rw [numAt_of h2 hbl]
      exact hle _ (List.getElem_mem _)
  rw [e]; exact ⟨_, rfl⟩
end
theorem comp_listF {K : PySem.W.Frag} {a : Addr} {xs : List V} {js : List (Option Nat)} {g : TG} {ti : TT} {te : TE} {σ : St} {H1 : Hp} {Q : VK} (Pv : Addr -> Nat -> List V -> St -> Hp -> Prop)
    (h0 : ∀ D, H1 D = none -> Pv D 0 [] (outSt js σ) (upd H1 D (.lst []))) (hl : ∀ D i ys τ H, i <= xs.length -> Pv D i ys τ H -> SqL K H a xs)
    (hs : ∀ D (i : Nat) x ys τ H, xs[i]? = some x -> Pv D i ys τ H -> g x τ H fun τ2 H2 => ti τ2 H2 fun b H3 =>
      if b = true then te τ2 H3 fun y H4 => H4 D = some (.lst ys) /\ ys.length < sizeLine /\ Nx xs.length i (Pv D (i + 1) (ys ++ [y]) τ2 (upd H4 D (.lst (ys ++ [y]))))
      else Nx xs.length i (Pv D (i + 1) ys τ2 H3))
    (hd : ∀ D ys τ H, Pv D xs.length ys τ H -> Q (.ref D) H) : CompW (Itl K a) js g ti te σ H1 Q := by
  intro D hD; refine ⟨fun i m ys τ H => m = xs.length - i /\ i <= xs.length /\ Pv D i ys τ H, ⟨xs.length, by simp, Nat.zero_le _, h0 D hD⟩, ?_⟩
  rintro i m ys τ H ⟨rfl, hi, p⟩
  have q := hl D i ys τ H hi p
  by_cases hlt : i < xs.length
  . refine .inr ⟨⟨xs, xs[i], q, by simp [hlt]⟩, fun x H' y => ?_⟩
    obtain ⟨e, y⟩ := y; subst e; exact hs D i x ys τ _ (y xs q) p
  . have e : i = xs.length := by omega
    subst e; exact .inl ⟨⟨xs, q, Nat.le_refl _⟩, hd D ys τ H p⟩
end L2
namespace PySem
section
variable {prog : Program} {w : World} {A : Around} {E : Value -> Shared -> Prop} {s : Shared} {l : Addr} {xs : Array (Int × Tok)}
theorem iter_intTuple {Q : Value -> Shared -> Prop} (hl : s.heap.IsTuple l (intItems xs))
    (h : ∀ s₂ : Shared, s₂ = { s with heap := s.heap.push { cls := .type "tuple_iterator", data := .fields #[.ref l, .int 0 0] } } ->
      (s₂.heap.IsTupleIter s.heap.objs.size l 0 /\ s₂.heap.IsTuple l (intItems xs)) -> (∀ b ∈ [s.heap.objs.size, l], b < s₂.heap.objs.size) -> l ≠ s.heap.objs.size -> Q (.ref s.heap.objs.size) s₂) :
    wpAny (model prog w) A (pyIter (.ref l)) Q E s := by
  have hlt : l < s.heap.objs.size := by obtain ⟨_, e, _⟩ := hl; exact Heap.lt_size e
  refine wpAny_pyIter_tuple hl (h _ rfl ⟨⟨_, Heap.get?_push_size _ rfl, rfl, rfl⟩, hl.at fun o e => Heap.get?_push_of_some _ e⟩ (fun b hb => ?_) (Nat.ne_of_lt hlt))
  show b < (s.heap.push _).objs.size
  rw [Heap.size_push]
  rcases List.mem_cons.mp hb with rfl | hb
  . exact Nat.lt_succ_self _
  . rcases List.mem_cons.mp hb with rfl | hb
    . exact Nat.lt_succ_of_lt hlt
    . cases hb
theorem oldT_kept {h' : Heap} (hk : ∀ b o, b ∉ [s.heap.objs.size] -> (s.heap.push { cls := .type "tuple_iterator", data := .fields #[.ref l, .int 0 0] }).get? b = some o -> h'.get? b = some o) :
    ∀ b o, s.heap.get? b = some o -> h'.get? b = some o := fun b o e => by
  refine hk b o (fun hm => ?_) (Heap.get?_push_of_some _ e)
  rcases List.mem_cons.mp hm with e1 | hm
  . exact absurd (e1 ▸ Heap.lt_size e) (Nat.lt_irrefl _)
  . cases hm
theorem max_intTuple {Q : Value -> Shared -> Prop} (hh : A.handled = none) (hl : s.heap.IsTuple l (intItems xs)) (hne : 0 < xs.size)
    (h : ∀ v h' tk, (intItems xs)[argBest (fun i j => decide (numAt xs i > numAt xs j)) (xs.size - 1)]? = some v -> (∀ b o, s.heap.get? b = some o -> h'.get? b = some o) -> Q v { s with heap := h', toks := tk }) :
    wpAny (model prog w) A (call (.builtin "max") [.ref l]) Q E s := by
  refine call_max_walk (iter_intTuple hl fun s₂ e st hfp hlI => ?_); subst e; refine ⟨_, _, _, _, _, _, _, rfl, Walks.tuple (A := A.in1) hh _ l hlI (intItems xs), st, hfp, by simpa [intItems] using hne, CmpOf.ints_gt (numAt xs) (fun _ _ => intItems_at), fun v h' tk hP hk => ?_⟩
  exact h v h' tk (by simpa [intItems] using hP) (oldT_kept hk)
theorem min_intTuple {Q : Value -> Shared -> Prop} (hh : A.handled = none) (hl : s.heap.IsTuple l (intItems xs)) (hne : 0 < xs.size)
    (h : ∀ v h' tk, (intItems xs)[argBest (fun i j => decide (numAt xs i < numAt xs j)) (xs.size - 1)]? = some v -> (∀ b o, s.heap.get? b = some o -> h'.get? b = some o) -> Q v { s with heap := h', toks := tk }) :
    wpAny (model prog w) A (call (.builtin "min") [.ref l]) Q E s := by
  refine call_min_walk (iter_intTuple hl fun s₂ e st hfp hlI => ?_); subst e; refine ⟨_, _, _, _, _, _, _, rfl, Walks.tuple (A := A.in1) hh _ l hlI (intItems xs), st, hfp, by simpa [intItems] using hne, CmpOf.ints_lt (numAt xs) (fun _ _ => intItems_at), fun v h' tk hP hk => ?_⟩
  exact h v h' tk (by simpa [intItems] using hP) (oldT_kept hk)
end
end PySem
namespace L2
open PySem PySem.Spec PyProof.Rows
section
variable {X : Cx}
inductive rMinT (K : PySem.W.Frag) (xs : (List V)) (H : Hp) (Q : VK) : Prop
  | mk (p : Addr) (ns : List Int) (m : Int) (z1_ : xs = [.ref p]) (z2_ : SqT K H p (ns.map V.int)) (z3_ : m ∈ ns) (z4_ : (∀ n ∈ ns, m <= n)) (z5_ : Q (.int m) H) : rMinT K xs H Q
inductive rMaxT (K : PySem.W.Frag) (xs : (List V)) (H : Hp) (Q : VK) : Prop
  | mk (p : Addr) (ns : List Int) (m : Int) (z1_ : xs = [.ref p]) (z2_ : SqT K H p (ns.map V.int)) (z3_ : m ∈ ns) (z4_ : (∀ n ∈ ns, n <= m)) (z5_ : Q (.int m) H) : rMaxT K xs H Q
theorem call_minT (hc : X.calm = true) : CallR X (.builtin "min") (rMinT X.K) := by
  intro pins s σ H xs us Q I r h; obtain ⟨p, ns, m, rfl, hq, hm, hle, q⟩ := h; obtain ⟨u, rfl, rx⟩ := vals1 r
  cases rx
  refine hld fun g_ k_ => ?_; obtain ⟨its, rv, pl, hz⟩ := I.tuple hq; refine k_ ?_; obtain ⟨ys, h1, h2⟩ := ints_items rv; subst h1; have hlen : ys.length = ns.length := by rw [<- h2, List.length_map]
  have hpos : 0 < ns.length := List.length_pos_of_mem hm
  have hl : s.heap.IsTuple p (intItems ys.toArray) := by
    have : s.heap.IsTuple p (ys.map fun p => Value.int p.1 p.2).toArray := pl
    unfold intItems
    simpa using this
  refine min_intTuple (xs := ys.toArray) (I.ok.hd hc) hl (by rw [List.size_toArray, hlen]; exact hpos) fun v h' tk hv k => ⟨.int m, H, I.kept k, ?_, q⟩
  have hb := argBest_le (fun i j => decide (numAt ys.toArray i < numAt ys.toArray j)) (ys.toArray.size - 1); obtain ⟨t, rfl⟩ := intItems_at hv; rw [List.size_toArray, hlen] at hb hv ⊢; have hbl : argBest (fun i j => decide (numAt ys.toArray i < numAt ys.toArray j)) (ns.length - 1) < ns.length := by omega
  have e : numAt ys.toArray (argBest (fun i j => decide (numAt ys.toArray i < numAt ys.toArray j)) (ns.length - 1)) = m := by
    refine Int.le_antisymm ?_ ?_
    . obtain ⟨j, hj⟩ := List.mem_iff_getElem?.mp hm
      obtain ⟨hjl, e⟩ := List.getElem?_eq_some_iff.mp hj; have := argBest_min (numAt ys.toArray) (ns.length - 1) j (by omega)
      rw [numAt_of h2 hjl, e] at this; exact this
    . rw [numAt_of h2 hbl]
      exact hle _ (List.getElem_mem _)
  rw [e]; exact ⟨_, rfl⟩
theorem call_maxT (hc : X.calm = true) : CallR X (.builtin "max") (rMaxT X.K) := by
  intro pins s σ H xs us Q I r h; obtain ⟨p, ns, m, rfl, hq, hm, hle, q⟩ := h; obtain ⟨u, rfl, rx⟩ := vals1 r
  cases rx
  refine hld fun g_ k_ => ?_; obtain ⟨its, rv, pl, hz⟩ := I.tuple hq; refine k_ ?_; obtain ⟨ys, h1, h2⟩ := ints_items rv; subst h1; have hlen : ys.length = ns.length := by rw [<- h2, List.length_map]
  have hpos : 0 < ns.length := List.length_pos_of_mem hm
  have hl : s.heap.IsTuple p (intItems ys.toArray) := by
    have : s.heap.IsTuple p (ys.map fun p => Value.int p.1 p.2).toArray := pl
    unfold intItems
    simpa using this
  refine max_intTuple (xs := ys.toArray) (I.ok.hd hc) hl (by rw [List.size_toArray, hlen]; exact hpos) fun v h' tk hv k => ⟨.int m, H, I.kept k, ?_, q⟩
  have hb := argBest_le (fun i j => decide (numAt ys.toArray i > numAt ys.toArray j)) (ys.toArray.size - 1); obtain ⟨t, rfl⟩ := intItems_at hv; rw [List.size_toArray, hlen] at hb hv ⊢; have hbl : argBest (fun i j => decide (numAt ys.toArray i > numAt ys.toArray j)) (ns.length - 1) < ns.length := by omega
  have e : numAt ys.toArray (argBest (fun i j => decide (numAt ys.toArray i > numAt ys.toArray j)) (ns.length - 1)) = m := by
    refine Int.le_antisymm ?_ ?_
    . rw [numAt_of h2 hbl]
      exact hle _ (List.getElem_mem _)
    . obtain ⟨j, hj⟩ := List.mem_iff_getElem?.mp hm
      obtain ⟨hjl, e⟩ := List.getElem?_eq_some_iff.mp hj; have := argBest_max (numAt ys.toArray) (ns.length - 1) j (by omega)
      rw [numAt_of h2 hjl, e] at this; exact this
  rw [e]; exact ⟨_, rfl⟩
theorem rc_tup {A : Around} {pins : List (Addr × Obj)} {σ : St} {H : Hp} {s : Shared} (I : Inv X pins σ H s) {c d : Addr} {xs ys : List V} (hc : H c = some (.tup xs)) (hd : H d = some (.tup ys)) (f1 : xs.all flatV = true) (f2 : ys.all flatV = true) (hu : A.units < cLine) : SeqAt.EqAt A s (.ref c) (.ref d) (eqL xs ys) := by
  by_cases e : c = d
  . subst e
    rw [hc] at hd
    cases hd
    rw [show eqL xs xs = true from by
      unfold eqL
      rw [show (xs.length == xs.length) = true from beq_iff_eq.mpr rfl, Bool.true_and]
      exact all_eq_self f1 _ (Nat.le_refl _)]
    exact SeqAt.EqAt.same _
  . obtain ⟨its, r, pl, _⟩ := I.tuple (SqT.of hc)
    refine hld fun g_ k_ => ?_; obtain ⟨its2, r2, pl2, _⟩ := I.tuple (SqT.of hd); refine k_ ?_; have l1 := r.length; have l2 := r2.length; refine SeqAt.EqAt.of_refs e ?_; have := SeqAt.RcAt.tuples (A := A) pl pl2 hu (eq_each (A := A.in1) r r2 f1 f2)
    have e2 : ((List.range (min its.toArray.size its2.toArray.size)).all (fun j => eqV (xs.getD j .non) (ys.getD j .non)) && its.toArray.size == its2.toArray.size) = eqL xs ys := by
      unfold eqL
      rw [List.size_toArray, List.size_toArray, <- l1, <- l2]
      by_cases hs : xs.length = ys.length
      . rw [hs, Nat.min_self, Bool.and_comm]
      . rw [show (xs.length == ys.length) = false from beq_eq_false_iff_ne.mpr hs, Bool.and_false, Bool.false_and]
    rw [e2] at this; exact this
structure TupsAt (H : Hp) (p : Addr) (rs : List Addr) (yss : List (List V)) : Prop where
  top : H p = some (.lst (rs.map V.ref))
  len : rs.length = yss.length
  each : ∀ (j : Nat) (c : Addr) (ys : List V), rs[j]? = some c -> yss[j]? = some ys -> H c = some (.tup ys)
  flat : ∀ ys ∈ yss, ys.all flatV = true
def eT (H : Hp) (xs : List V) : Value -> Bool
  | .ref c => match H c with
    | some (.tup ys) => eqL ys xs
    | _ => false
  | _ => false
inductive rNotInT (K : PySem.W.Frag) (x : V) (y : V) (H : Hp) (Q : VK) : Prop
  | mk (t : _) (p : _) (xs : _) (rs : _) (yss : _) (z1_ : x = .ref t) (z2_ : y = .ref p) (z3_ : H t = some (.tup xs)) (z4_ : TupsAt H p rs yss) (z5_ : xs.all flatV = true) (z6_ : Q (.bl (!(yss.any fun ys => eqL ys xs))) H) : rNotInT K x y H Q
theorem any_eT {H : Hp} {xs : List V} : ∀ {rs : List Addr} {yss : List (List V)} {us : List Value}, Vals (rs.map V.ref) us -> rs.length = yss.length -> (∀ (j : Nat) (c : Addr) (ys : List V), rs[j]? = some c -> yss[j]? = some ys -> H c = some (.tup ys)) ->
    us.any (eT H xs) = yss.any fun ys => eqL ys xs
  | [], [], _, .nil, _, _ => rfl
  | c :: rs, ys :: yss, u :: us, .cons r r2, hl, he => by
    obtain rfl : u = Value.ref c := r; rw [List.any_cons, List.any_cons, any_eT r2 (Nat.succ.inj hl) (fun j c' ys' h1 h2 => he (j + 1) c' ys' h1 h2)]
    have e : eT H xs (.ref c) = eqL ys xs := by
      show (match H c with | some (.tup ys) => eqL ys xs | _ => false) = _
      rw [he 0 c ys rfl rfl]
    rw [e]
theorem op_notinT (hu : X.A.units + 1 < cLine) : OpR X (compareOp .NotIn) (rNotInT X.K) := by
  intro pins s σ H x y v u Q I rx ry h; obtain ⟨t, p, xs, rs, yss, rfl, rfl, ht, G, f1, q⟩ := h
  cases rx
  cases ry
  obtain ⟨its, r, pl, _⟩ := I.list (SqL.of (K := X.K) G.top); refine SeqAt.notIn_listAt (eT H xs) pl.isList (fun w hw => ?_) ⟨.bl (!(yss.any fun ys => eqL ys xs)), H, I, ?_, q⟩
  . have hw : w ∈ its := by simpa using hw
    obtain ⟨j, hj⟩ := List.mem_iff_getElem?.mp hw; have hjl : j < its.length := (List.getElem?_eq_some_iff.mp hj).1; have l1 := r.length; rw [List.length_map] at l1; have hjr : j < rs.length := by omega
    obtain ⟨u1, e1, q1⟩ := r.get (show (rs.map V.ref)[j]? = some (V.ref rs[j]) by rw [List.getElem?_map, List.getElem?_eq_getElem hjr]; rfl)
    rw [hj] at e1
    cases e1
    obtain rfl : w = Value.ref rs[j] := q1; have hjy : j < yss.length := by rw [<- G.len]; exact hjr
    have ec := G.each j rs[j] _ (List.getElem?_eq_getElem hjr) (List.getElem?_eq_getElem hjy)
    have e : eT H xs (.ref rs[j]) = eqL yss[j] xs := by
      show (match H rs[j] with | some (.tup ys) => eqL ys xs | _ => false) = _
      rw [ec]
    rw [e]; exact rc_tup I ec ht (G.flat _ (List.getElem_mem hjy)) f1 hu
  . show Value.bool _ = Value.bool _
    rw [show its.toArray.any (eT H xs) = its.any (eT H xs) by simp, any_eT r G.len G.each]
end
theorem TupsAt.up {H H' : Hp} {p : Addr} {rs : List Addr} {yss : List (List V)} (G : TupsAt H p rs yss) (s : Same H H') : TupsAt H' p rs yss := ⟨s _ _ G.top, G.len, fun j c ys h1 h2 => s _ _ (G.each j c ys h1 h2), G.flat⟩
end L2
namespace L2
open PySem PySem.Spec PyProof.Rows
section
variable {P : Program} {w : World} {K : PySem.W.Frag} {mg : Str -> Option Value} {base : Heap} {N : List Str} {qual : Str} {scope0 : Scope} {f : Addr} {cd : Value} {A : Around} {outer : List Env} {s0 : Shared} {H0 : Hp} {E : XK}
theorem ps_setCompE {i : Nat} {y : Str} {py spos : Pos} (hN : (cxOf (CXe P w) P w K mg base N qual scope0 f cd A outer s0 H0 E).N.Nodup) (hi0 : (cxOf (CXe P w) P w K mg base N qual scope0 f cd A outer s0 H0 E).N[i]? = some y) (hx : Loc (cxOf (CXe P w) P w K mg base N qual scope0 f cd A outer s0 H0 E).env.scope y) (K0 : CompOk (cxOf (CXe P w) P w K mg base N qual scope0 f cd A outer s0 H0 E) scope cl N' js) (hi : PI (cxOf (CXe P w) P w K mg base N qual scope0 f cd A outer s0 H0 E) tg iter wi)
    (hg : ∀ C s₀ H₀ fp, PG (compCx (cxOf (CXe P w) P w K mg base N qual scope0 f cd A outer s0 H0 E) N' scope cl C s₀ H₀ fp) tg g) (hif : ∀ C s₀ H₀ fp, PIf (compCx (cxOf (CXe P w) P w K mg base N qual scope0 f cd A outer s0 H0 E) N' scope cl C s₀ H₀ fp) ifs ti)
    (he : ∀ C s₀ H₀ fp xe, Passes (CXe P w) (compCxE (cxOf (CXe P w) P w K mg base N qual scope0 f cd A outer s0 H0 E) N' scope cl C s₀ H₀ fp xe) E -> PE (compCxE (cxOf (CXe P w) P w K mg base N qual scope0 f cd A outer s0 H0 E) N' scope cl C s₀ H₀ fp xe) elt te)
    (hsw : swapsWith (.ListComp elt [⟨tg, iter, ifs, 0⟩] scope pos) (some (.Name y py)) spos.line (cxOf (CXe P w) P w K mg base N qual scope0 f cd A outer s0 H0 E).env = pure true := by rfl) (hs : ∀ x, foldedSetIterable iter (cxOf (CXe P w) P w K mg base N qual scope0 f cd A outer s0 H0 E).env x = pure x := by intro _; rfl)
    (hf : (cxOf (CXe P w) P w K mg base N qual scope0 f cd A outer s0 H0 E).fn y = true \/ (cxOf (CXe P w) P w K mg base N qual scope0 f cd A outer s0 H0 E).env.scope.names.lookup y = some .local := by first | exact .inl rfl | exact .inr rfl | assumption) :
    PS (cxOf (CXe P w) P w K mg base N qual scope0 f cd A outer s0 H0 E) (.Assign [.Name y py] (.ListComp elt [⟨tg, iter, ifs, 0⟩] scope pos) spos) (tAsg (tComp wi js g ti te) (gName i)) := by
  intro pins s σ H D I h; rw [exec_Assign_Name_used _ _ _ _ hsw]; refine wpAny_bind (wpAny_standAt (wpAny_bind ?_))
  show wpAny _ (cxOf (CXe P w) P w K mg base N qual scope0 f cd A outer s0 H0 E).A (do let _ <- comprehension (.ListComp elt [⟨tg, iter, ifs, 0⟩] scope pos) scope (cxOf (CXe P w) P w K mg base N qual scope0 f cd A outer s0 H0 E).env _ (newList []) false (eval iter (cxOf (CXe P w) P w K mg base N qual scope0 f cd A outer s0 H0 E).env) (some (assign (.Name y py) (cxOf (CXe P w) P w K mg base N qual scope0 f cd A outer s0 H0 E).env))) _ _ s
  refine wpAny_bind (wpAny_mono (wpAny_comprehension_free (use := some (assign (.Name y py) (cxOf (CXe P w) P w K mg base N qual scope0 f cd A outer s0 H0 E).env)) (Q := fun _ s' => SP (cxOf (CXe P w) P w K mg base N qual scope0 f cd A outer s0 H0 E) pins D .next s') rfl hs K0.clos K0.kind K0.names
    (thn (hi pins s σ H _ I h) fun v s1 h1 => thn h1 fun itv s2 h2 => ?_)) (fun _ s' hq => wpAny_pure (wpAny_pure hq)) fun _ _ e => e)
  refine hld fun g_ k_ => ?_; obtain ⟨it, fp, tn, J, H2, e, I2, T, st2, f2, hW⟩ := h2; refine k_ ?_; subst e; refine comp_blockE (E := E) (RR := fun acc C => compPost (model P w) (cxOf (CXe P w) P w K mg base N qual scope0 f cd A outer s0 H0 E).A (cxOf (CXe P w) P w K mg base N qual scope0 f cd A outer s0 H0 E).xe (some (assign (.Name y py) (cxOf (CXe P w) P w K mg base N qual scope0 f cd A outer s0 H0 E).env)) (fun _ s' => SP (cxOf (CXe P w) P w K mg base N qual scope0 f cd A outer s0 H0 E) pins D .next s') acc C) K0 rfl I2 T st2 f2 hg hif he hW ?_ ?_
  . intro L C s' H' I' hn hC q
    obtain ⟨m, hm⟩ := hn
    show wpAny _ (cxOf (CXe P w) P w K mg base N qual scope0 f cd A outer s0 H0 E).A (assign (.Name y py) (cxOf (CXe P w) P w K mg base N qual scope0 f cd A outer s0 H0 E).env (.ref L)) _ _ _
    refine wpAny_assign_Name (store_ok2 (v := .ref L) I' hN hi0 hx rfl (fun s'' I'' hch => ?_) hf); obtain ⟨a, hsb, ha⟩ := hch
    have hCa : C ≠ a := by
      rcases ha with e | e
      . rw [e]; exact hC.2.1
      . exact Ne.symm (hC.2.2.2.2.1 _ _ e)
    refine ⟨m, hm.sameBut hsb hCa, fun h' hs' => ⟨_, H', comp_free I'' ?_ hs', q⟩⟩; exact hC
  . rintro D C e s' hC hCs p_
    refine hld fun g_ k_ => ?_; obtain ⟨a, cls, a0, H', B, rfl, F, hn, hE⟩ := p_; refine k_ ?_
    show wpAny _ _ (noteFrame (.ref a) (envOfC qual scope0 s0.heap.objs.size f cd)) _ _ s'
    refine wpAny_noteFrame_onW (L := s0.heap.objs.size) I2.ok.frames F.ff rfl F.tr F.stays F.hen fun h2 N2 => ?_; refine hld fun g_ k_ => ?_; obtain ⟨n1, n2, n3, n4⟩ := N2; refine k_ ?_; have F2 := F.turn hC n1 n2 n3 n4; obtain ⟨m, hm⟩ := hn; have hm2 := ns_slots hm n4; refine ⟨m, hm2, fun h3 hs3 cenv hcl => ?_⟩; have F3 := F2.drop hC hCs ⟨m, hm2⟩ hs3
    unfold PySem.passOn
    refine hld fun g_ k_ => ?_; obtain ⟨oe, vs, T, oT, ts, he', hcls, hd, h1, hrest⟩ := id F3.tr; refine k_ ?_; refine wpAny_bind (wpAny_field he' hd h1 ?_); rw [if_neg (show ¬ ((Value.ref T == Value.none) = true) from by simp)]
    refine wpAny_bind (setFlight_any F3.stays F3.ff F3.tr fun h4 fl' y1 y2 y3 y4 => ?_); have F4 := F3.turn hC y1 y2 y3 y4; refine wpAny_throw ?_
    have hch : ∀ b ∈ fp, (b ∈ (cxOf (CXe P w) P w K mg base N qual scope0 f cd A outer s0 H0 E).ex \/ s0.heap.objs.size <= b) /\ b ≠ (cxOf (CXe P w) P w K mg base N qual scope0 f cd A outer s0 H0 E).env.locals /\ (∀ x c, (cxOf (CXe P w) P w K mg base N qual scope0 f cd A outer s0 H0 E).env.cells.lookup x = some c -> c ≠ b) /\ ∀ p ∈ (cxOf (CXe P w) P w K mg base N qual scope0 f cd A outer s0 H0 E).pn ++ pins, p.1 ≠ b :=
      fun b hb => ⟨(f2 b hb).2.2.2.1, (f2 b hb).2.1, (f2 b hb).2.2.2.2.1, (f2 b hb).2.2.2.2.2⟩
    have I4 := I2.call' (ch := fp) F4.os F4.un F4.hok F4.bare hch; refine leavesX I4 F4.stays F4.hen F4.ff F4.tr (fun b ob q hb hc => F4.cov b ob q hb ?_ ?_) hE
    . intro z
      rcases hc with ⟨o0, h0⟩ | hn'
      . have := Heap.lt_size h0
        have hsz := I2.sz; rw [z] at this; exact absurd (Nat.lt_of_lt_of_le this (Nat.le_trans hsz hC)) (Nat.lt_irrefl _)
      . rw [z] at hn'
        exact hn' F4.cn
    . rcases hc with ⟨o0, h0⟩ | hn'
      . refine .inl ⟨fun hb' => ?_, I2.base.there b o0 h0 (fun z => absurd (show b ∈ ([] : List Addr) from z) (by simp))⟩
        rcases (hch b hb').1 with z | z
        . exact absurd (show b ∈ ([] : List Addr) from z) (by simp)
        . exact absurd (Nat.lt_of_lt_of_le (Heap.lt_size h0) z) (Nat.lt_irrefl _)
      . exact .inr hn'
end
end L2
namespace L2
open PySem PySem.Spec PyProof.Rows
end L2
namespace KM
inductive RT where
  | node (ts : List RT)
mutual
def RT.str : RT -> Tx
  | .node ts => brk (strL ts)
def strL : List RT -> Tx
  | [] => []
  | t :: ts => t.str ++ strL ts
end
mutual
def RT.size : RT -> Nat
  | .node ts => 1 + sizeL ts
def sizeL : List RT -> Nat
  | [] => 0
  | t :: ts => t.size + sizeL ts
end
mutual
/-- the knots above, the root numbered n and under p -/
def RT.lay (n : Nat) (p : Option Nat) : RT -> Ab
  | .node ts => p :: layL (n + 1) (some n) ts
def layL (n : Nat) (p : Option Nat) : List RT -> Ab
  | [] => []
  | t :: ts => t.lay n p ++ layL (n + t.size) p ts
end
mutual
/-- the form: the parts in order -/
def RT.canon : RT -> Tx
  | .node ts => brk (srt (canonL ts)).flatten
def canonL : List RT -> List Tx
  | [] => []
  | t :: ts => t.canon :: canonL ts
end
def pos (m : Nat) : List RT -> List Nat
  | [] => []
  | t :: ts => m :: pos (m + t.size) ts
def back : Int -> Tx -> Option Tx
  | _, [] => none
  | d, c :: r => if d + (if c = 40 then 1 else 0) - (if c = 41 then 1 else 0) < 1 then back (d + (if c = 40 then 1 else 0) - (if c = 41 then 1 else 0)) r else some r
end KM
namespace KD
open PySem L2 KM PyProof.Rows
theorem mkS_list (t : Tx) : (mkS t).cps.toList = t := rfl
end KD
namespace KM
end KM
namespace KD
open PySem L2 KM PyProof.Rows
structure KitE (P : Program) (w : World) (K : PySem.W.Frag) (mg : Str -> Option Value) (base : Heap) (k : Nat) (x : Str) (ps : List Str) (sp : Sp) (f : Addr) (fd : FuncData) : Prop where
  ok : FnOk P w K mg base (CXe P w) k f fd ps sp
  bd : Binds K fd ps []
  kp : PySem.W.keepIn K (.ref f) = true
  mg : mg x = some (.ref f)
end KD
namespace KM
section
variable {ab : Ab} {r : Nat}
theorem idx_of {l : List Nat} (h : l.Nodup) {i k : Nat} (hi : l[i]? = some k) : l.idxOf k = i := by
  obtain ⟨h1, rfl⟩ := List.getElem?_eq_some_iff.mp hi; exact h.idxOf_getElem i h1
theorem Bfs.tree (hroot : ab[r]? = some none) (only : ∀ j, ab[j]? = some none -> j = r) (hin : ∀ (j p : Nat), ab[j]? = some (some p) -> p < ab.length) {ord : List Nat} (B : Bfs ab r ord ord.length) (hw : ord.length = ab.length) :
    Tree ab r (fun k => ord.idxOf k) := by
  have mem : ∀ k, k < ab.length -> k ∈ ord := by
    intro k hk; refine Classical.byContradiction fun hn => ?_; have nd : (k :: ord).Nodup := List.nodup_cons.mpr ⟨hn, B.nd⟩
    have h := nd.length_le_of_subset (l₂ := List.range ab.length) fun j hj => List.mem_range.mpr (by
      rcases List.mem_cons.mp hj with e | e
      . rw [e]; exact hk
      . exact B.lt j e)
    rw [List.length_range, List.length_cons] at h
    omega
  refine ⟨hroot, only, fun j p h => ⟨hin j p h, ?_⟩, fun j hj => ?_⟩
  . obtain ⟨i, hi⟩ := List.mem_iff_getElem?.mp (mem p (hin j p h))
    obtain ⟨j', hj', he⟩ := B.late i p j (List.getElem?_eq_some_iff.mp hi).1 hi (mem_kids.mpr h)
    show ord.idxOf p < ord.idxOf j
    rw [idx_of B.nd hi, idx_of B.nd he]; exact hj'
  . show ord.idxOf j < ab.length
    have := List.idxOf_lt_length_of_mem (mem j hj)
    omega
theorem roots_one {r : Nat} : rootsTo ab ab.length = [r] ↔ ab[r]? = some none /\ ∀ j, ab[j]? = some none -> j = r := by
  constructor
  . intro h
    have hm : ∀ j, j ∈ rootsTo ab ab.length ↔ ab[j]? = some none := fun j => by
      unfold rootsTo
      rw [List.mem_filter, List.mem_range]
      constructor
      . intro z; exact eq_of_beq z.2
      . intro z; exact ⟨(List.getElem?_eq_some_iff.mp z).1, by rw [z]; exact beq_self_eq_true _⟩
    rw [h] at hm; exact ⟨(hm r).mp (by simp), fun j hj => by simpa using (hm j).mpr hj⟩
  . rintro ⟨h1, h2⟩
    refine List.perm_singleton.mp ((List.perm_ext_iff_of_nodup (List.Pairwise.sublist List.filter_sublist List.nodup_range) (by simp)).mpr fun j => ?_)
    rw [List.mem_singleton, List.mem_filter, List.mem_range]
    constructor
    . intro h; exact h2 j (eq_of_beq h.2)
    . rintro rfl
      exact ⟨(List.getElem?_eq_some_iff.mp h1).1, by rw [h1]; exact beq_self_eq_true _⟩
end
abbrev AI := List (Option Int)
def toI (o : Option Nat) : Option Int := o.map fun k => (k : Int)
def ofI (o : Option Int) : Option Nat := o.map Int.toNat
theorem ofI_toI (o : Option Nat) : ofI (toI o) = o := by cases o <;> simp [ofI, toI]
def Root1 (A : AI) (r : Nat) : Prop := A[r]? = some none /\ ∀ j, A[j]? = some none -> j = r
def InR (A : AI) : Prop := ∀ (j : Nat) (i : Int), A[j]? = some (some i) -> 0 <= i /\ i < A.length
def Rtd (A : AI) : Prop := ∃ (ab : Ab) (r : Nat) (rk : Nat -> Nat), A = ab.map toI /\ Tree ab r rk
theorem none_of {A : AI} {j : Nat} : (A.map ofI)[j]? = some none ↔ A[j]? = some none := by
  rw [List.getElem?_map]
  cases A[j]? with
  | none => simp
  | some o => cases o <;> simp [ofI]
theorem Root1.of {A : AI} {r : Nat} : Root1 A r ↔ (A.map ofI)[r]? = some none /\ ∀ j, (A.map ofI)[j]? = some none -> j = r := by
  unfold Root1
  rw [none_of]; exact and_congr_right fun _ => forall_congr' fun j => by rw [none_of]
theorem InR.back {A : AI} (h : InR A) : A = (A.map ofI).map toI := by
  rw [List.map_map]; refine (List.map_id A).symm.trans (List.map_congr_left fun o ho => ?_); obtain ⟨j, hj⟩ := List.mem_iff_getElem?.mp ho
  cases o with
  | none => rfl
  | some i =>
    have := (h j i hj).1
    show some i = some ((i.toNat : Nat) : Int)
    rw [Int.toNat_of_nonneg this]
theorem InR.par {A : AI} (h : InR A) : ∀ (j p : Nat), (A.map ofI)[j]? = some (some p) -> p < (A.map ofI).length := by
  intro j p hj; rw [List.getElem?_map] at hj; rw [List.length_map]
  cases q : A[j]? with
  | none => rw [q] at hj; cases hj
  | some o =>
    rw [q] at hj
    cases o with
    | none => cases Option.some.inj hj
    | some i =>
      have e : i.toNat = p := Option.some.inj (Option.some.inj hj); have := h j i q
      omega
theorem map_back (ab : Ab) : (ab.map toI).map ofI = ab := by
  rw [List.map_map]; exact (List.map_congr_left fun o _ => ofI_toI o).trans (List.map_id ab)
theorem Rtd.root {A : AI} (h : Rtd A) : ∃ r, Root1 A r := by
  obtain ⟨ab, r, rk, rfl, T⟩ := h; exact ⟨r, Root1.of.mpr (by rw [map_back]; exact ⟨T.root, T.only⟩)⟩
theorem Rtd.inR {A : AI} (h : Rtd A) : InR A := by
  obtain ⟨ab, r, rk, rfl, T⟩ := h; intro j i hj; rw [List.getElem?_map] at hj
  cases q : ab[j]? with
  | none => rw [q] at hj; cases hj
  | some o =>
    rw [q] at hj
    cases o with
    | none => cases Option.some.inj hj
    | some p =>
      have e : (p : Int) = i := Option.some.inj (Option.some.inj hj); have := (T.up j p q).1; rw [List.length_map]
      omega
theorem Rtd.tree {A : AI} (h : Rtd A) {r : Nat} (hr : Root1 A r) : ∃ rk, Tree (A.map ofI) r rk := by
  obtain ⟨ab, r', rk, rfl, T⟩ := h; rw [map_back]; have : r = r' := T.only r (by have := (Root1.of.mp hr).1; rwa [map_back] at this)
  rw [this]; exact ⟨rk, T⟩
end KM
namespace KD
open PySem L2 KM PyProof.Rows
def vI : Option Int -> V
  | none => .non
  | some i => .int i
theorem vI_toI (o : Option Nat) : vI (toI o) = vO o := by cases o <;> rfl
theorem map_vI (ab : Ab) : (ab.map toI).map vI = ab.map vO := by
  rw [List.map_map]; exact List.map_congr_left fun o _ => vI_toI o
inductive spRootX (C : Addr) (vs : (List V)) (H : Hp) (Q : VK) (E : XK) : Prop
  | mk (a : Addr) (A : AI) (z1_ : vs = [.ref a]) (z2_ : H a = some (.lst (A.map vI))) (z3_ : A.length <= 1000) (z4_ : (∀ (r : Nat) (H' : Hp), Root1 A r -> Same H H' -> Q (vN r) H')) (z5_ : ((¬ ∃ r, Root1 A r) -> ∀ H', Same H H' -> E (.ref C) none H')) : spRootX C vs H Q E
inductive spUnderX (C : Addr) (vs : (List V)) (H : Hp) (Q : VK) (E : XK) : Prop
  | mk (a : Addr) (A : AI) (z1_ : vs = [.ref a]) (z2_ : H a = some (.lst (A.map vI))) (z3_ : A.length <= 1000) (z4_ : (InR A -> ∀ (u : Addr) (as : List Addr) (H' : Hp), Same H H' -> UnderAt H' u as (A.map ofI) -> Q (.ref u) H')) (z5_ : (¬ InR A -> ∀ H', Same H H' -> E (.ref C) none H')) : spUnderX C vs H Q E
inductive spFormX (C : Addr) (vs : (List V)) (H : Hp) (Q : VK) (E : XK) : Prop
  | mk (a : Addr) (A : AI) (z1_ : vs = [.ref a]) (z2_ : H a = some (.lst (A.map vI))) (z3_ : A.length < 64) (z4_ : (∀ (ab : Ab) (r : Nat) (rk : Nat -> Nat) (H' : Hp), A = ab.map toI -> Tree ab r rk -> Same H H' -> Q (vT (fm ab r)) H')) (z5_ : (¬ Rtd A -> ∀ H', Same H H' -> E (.ref C) none H')) : spFormX C vs H Q E
end KD
namespace KM
end KM
namespace KD
open PySem L2 KM PyProof.Rows
theorem cutTake (xs : List V) (k : Nat) : cutV xs none (some (k : Int)) = xs.take k := by
  unfold cutV
  rw [HT.sIx_none, HT.sIx_nat, List.drop_zero, Nat.sub_zero]
  by_cases h : k <= xs.length
  . rw [Nat.min_eq_left h]
  . rw [Nat.min_eq_right (by omega), List.take_length, List.take_of_length_le (by omega)]
end KD
namespace KM
def mrk (m : Option Nat) (k : Nat) : List Tx := if m = some k then [[42]] else []
theorem mrk_self (k : Nat) : mrk (some k) k = [[42]] := if_pos rfl
def formM (ab : Ab) (m : Option Nat) : Nat -> Nat -> Tx
  | 0, _ => []
  | f + 1, k => brk (srt ((kids ab k).map (formM ab m f) ++ mrk m k)).flatten
def fmM (ab : Ab) (m : Option Nat) (k : Nat) : Tx := formM ab m ab.length k
theorem formM_none (ab : Ab) : ∀ (f k : Nat), formM ab none f k = form ab f k
  | 0, _ => rfl
  | f + 1, k => by
    show brk (srt ((kids ab k).map (formM ab none f) ++ [])).flatten = brk _
    rw [List.append_nil]; have e : formM ab none f = form ab f := funext fun j => formM_none ab f j; rw [e]
theorem fmM_none (ab : Ab) (k : Nat) : fmM ab none k = fm ab k := formM_none ab _ k
section
variable {ab : Ab} {r : Nat} {rk : Nat -> Nat}
theorem Tree.stableM (T : Tree ab r rk) (m : Option Nat) : ∀ (d k f g : Nat), k < ab.length -> ab.length - rk k <= d -> ab.length - rk k <= f -> ab.length - rk k <= g -> formM ab m f k = formM ab m g k
  | 0, k, f, g, hk, hd, _, _ => by have := T.low k hk; omega
  | d + 1, k, f, g, hk, hd, hf, hg => by
    have h0 := T.low k hk; obtain ⟨f', rfl⟩ : ∃ f', f = f' + 1 := ⟨f - 1, by omega⟩
    obtain ⟨g', rfl⟩ : ∃ g', g = g' + 1 := ⟨g - 1, by omega⟩
    show brk _ = brk _
    congr 4
    refine List.map_congr_left fun c hc => ?_; have h1 := (T.up c k (mem_kids.mp hc)).2; have h2 := T.low c (kids_lt hc); exact T.stableM m d c f' g' (kids_lt hc) (by omega) (by omega) (by omega)
theorem Tree.fmM_eq (T : Tree ab r rk) (m : Option Nat) {k : Nat} (hk : k < ab.length) : fmM ab m k = brk (srt ((kids ab k).map (fmM ab m) ++ mrk m k)).flatten := by
  have e : fmM ab m k = formM ab m (ab.length + 1) k := T.stableM m _ k _ _ hk (Nat.le_refl _) (by omega) (by omega)
  rw [e]
  rfl
end
theorem mrk_len (m : Option Nat) (k : Nat) : ((mrk m k).map (·.length)).sum <= 1 := by
  unfold mrk
  split <;> simp
theorem formM_len (ab : Ab) (m : Option Nat) (f k : Nat) : (formM ab m (f + 1) k).length <= ((kids ab k).map fun c => (formM ab m f c).length).sum + 3 := by
  show (brk _).length <= _
  rw [brk_len, srt_len, List.map_append, List.sum_append, List.map_map]; have := mrk_len m k
  show _ + _ + 2 <= _
  have e : ((kids ab k).map ((fun x => x.length) ∘ formM ab m f)) = (kids ab k).map fun c => (formM ab m f c).length := rfl; rw [e]
  omega
theorem formsM_all (ab : Ab) (m : Option Nat) : ∀ f : Nat, ((List.range ab.length).map fun k => (formM ab m f k).length).sum <= 3 * ab.length * f
  | 0 => by
    have : ((List.range ab.length).map fun k => (formM ab m 0 k).length) = (List.range ab.length).map fun _ => 0 := rfl; rw [this, sum_const]; simp
  | f + 1 => by
    have e : ((List.range ab.length).map fun k => (formM ab m (f + 1) k).length).sum <= ((List.range ab.length).map fun k => ((kids ab k).map fun c => (formM ab m f c).length).sum + 3).sum :=
      sum_map_le _ _ _ fun k _ => formM_len ab m f k
    refine Nat.le_trans e ?_; rw [sum_map_add, sum_const, List.length_range]; have h1 : ((List.range ab.length).map fun k => ((kids ab k).map fun c => (formM ab m f c).length).sum).sum <= _ := sum_filter ab (fun c => (formM ab m f c).length) (List.range ab.length) List.nodup_range (List.range ab.length); have h2 := formsM_all ab m f; rw [Nat.mul_add]
    omega
theorem fmM_kids_len (ab : Ab) (m : Option Nat) (k : Nat) : ((kids ab k).map fun c => (fmM ab m c).length).sum <= 3 * ab.length * ab.length := by
  have h1 : ((kids ab k).map fun c => (fmM ab m c).length).sum <= ((List.range ab.length).map fun c => (formM ab m ab.length c).length).sum := by
    unfold kids fmM
    exact sub_sum (List.Sublist.map _ List.filter_sublist)
  exact Nat.le_trans h1 (formsM_all ab m _)
def sgn (c : Nat) : Int := if c = 40 then 1 else if c = 41 then -1 else 0
def dep : Tx -> Int
  | [] => 0
  | c :: t => sgn c + dep t
end KM
namespace KM
inductive Reach (kd : Nat -> List Nat) (r : Nat) : List Nat -> Nat -> Prop
  | start : Reach kd r [r] 0
  | step {ord : List Nat} {pl k : Nat} : Reach kd r ord pl -> ord[pl]? = some k -> Reach kd r (ord ++ kd k) (pl + 1)
structure BfsK (ab : Ab) (kd : Nat -> List Nat) (r : Nat) (ord : List Nat) (pl : Nat) : Prop where
  nd : ord.Nodup
  lt : ∀ k ∈ ord, k < ab.length
  eq : ord = r :: (ord.take pl).flatMap kd
  le : pl <= ord.length
  late : ∀ (i k c : Nat), i < pl -> ord[i]? = some k -> c ∈ kd k -> ∃ j, i < j /\ ord[j]? = some c
  reach : Reach kd r ord pl
section
variable {ab : Ab} {r : Nat} {rk : Nat -> Nat} {kd : Nat -> List Nat}
theorem bfsK0 (h : ab[r]? = some none) : BfsK ab kd r [r] 0 where
  nd := by simp
  lt := by intro k hk; rw [List.mem_singleton] at hk; subst hk; exact (List.getElem?_eq_some_iff.mp h).1
  eq := by simp
  le := Nat.zero_le _
  late := by intro i k c h; omega
  reach := .start
theorem BfsK.len {ord : List Nat} {pl : Nat} (B : BfsK ab kd r ord pl) : ord.length <= ab.length := by
  have h := B.nd.length_le_of_subset (l₂ := List.range ab.length) fun k hk => List.mem_range.mpr (B.lt k hk); rw [List.length_range] at h; exact h
theorem BfsK.step (hroot : ab[r]? = some none) (hkd : ∀ k, k < ab.length -> (kd k).Perm (kids ab k)) {ord : List Nat} {pl k : Nat} (B : BfsK ab kd r ord pl) (hk : ord[pl]? = some k) : BfsK ab kd r (ord ++ kd k) (pl + 1) := by
  have hlt : pl < ord.length := (List.getElem?_eq_some_iff.mp hk).1; have hkl : k < ab.length := B.lt k (List.mem_of_getElem? hk); refine ⟨?_, ?_, ?_, ?_, ?_, B.reach.step hk⟩
  . rw [List.nodup_append]
    refine ⟨B.nd, ((hkd k hkl).nodup_iff).mpr (kids_nodup ab k), fun c hc c' hc' e => ?_⟩; subst e; have hp := mem_kids.mp ((hkd k hkl).mem_iff.mp hc'); rw [B.eq] at hc
    rcases List.mem_cons.mp hc with e | hc
    . subst e; rw [hroot] at hp; cases hp
    . obtain ⟨k', hk', hc2⟩ := List.mem_flatMap.mp hc
      have hk'l : k' < ab.length := B.lt k' (List.mem_of_mem_take hk')
      have e : k' = k := by
        have h2 := mem_kids.mp ((hkd k' hk'l).mem_iff.mp hc2); rw [hp] at h2; exact (Option.some.inj (Option.some.inj h2)).symm
      subst e; obtain ⟨i, hi⟩ := List.mem_iff_getElem?.mp hk'
      have hil : i < pl := by
        have := (List.getElem?_eq_some_iff.mp hi).1; rw [List.length_take] at this
        omega
      rw [List.getElem?_take_of_lt hil] at hi; have h3 : i < ord.length := by omega
      rw [List.getElem?_eq_getElem h3] at hi; rw [List.getElem?_eq_getElem hlt] at hk; have h4 : ord[i] = ord[pl] := by rw [Option.some.inj hi, Option.some.inj hk]
      have := (List.getElem_inj B.nd).mp h4
      omega
  . intro c hc
    rcases List.mem_append.mp hc with h | h
    . exact B.lt c h
    . exact kids_lt ((hkd k hkl).mem_iff.mp h)
  . have e : (ord ++ kd k).take (pl + 1) = ord.take pl ++ [k] := by
      rw [List.take_append_of_le_length (by omega), List.take_add_one, hk]
      rfl
    rw [e, List.flatMap_append]; have e2 : [k].flatMap kd = kd k := by simp
    rw [e2]; have e3 := B.eq; rw [<- List.cons_append, <- e3]
  . rw [List.length_append]; omega
  . intro i k' c hi he hc
    by_cases hip : i < pl
    . have h3 : i < ord.length := by omega
      rw [List.getElem?_append_left h3] at he; obtain ⟨j, hj, hjc⟩ := B.late i k' c hip he hc; exact ⟨j, hj, by rw [List.getElem?_append_left (List.getElem?_eq_some_iff.mp hjc).1]; exact hjc⟩
    . have hie : i = pl := by omega
      subst hie; rw [List.getElem?_append_left hlt, hk] at he
      cases he
      obtain ⟨j, hj⟩ := List.mem_iff_getElem?.mp hc; refine ⟨ord.length + j, by omega, ?_⟩
      rw [List.getElem?_append_right (by omega)]
      rw [Nat.add_sub_cancel_left]; exact hj
theorem BfsK.bfs {ord : List Nat} {pl : Nat} (B : BfsK ab (kids ab) r ord pl) : Bfs ab r ord pl := ⟨B.nd, B.lt, B.eq, B.le, B.late⟩
end
end KM
namespace KM
end KM
namespace KD
open PySem L2 KM PyProof.Rows
structure KitD (P : Program) (w : World) (K : PySem.W.Frag) (mg : Str -> Option Value) (base : Heap) (k : Nat) (x : Str) (ps : List Str) (sp : Sp) (f : Addr) (fd : FuncData) : Prop where
  ok : FnOk P w K mg base (CXe P w) k f fd ps sp
  bd : Binds K fd ps []
  bd1 : Binds K fd ps [.none]
  kp : PySem.W.keepIn K (.ref f) = true
  mg : mg x = some (.ref f)
theorem vals_non : Vals [V.non] [Value.none] := .cons (show RelV .non .none from rfl) .nil
structure ListsAt (H : Hp) (u : Addr) (as : List Addr) (n : Nat) (kd : Nat -> List Nat) : Prop where
  top : H u = some (.lst (as.map V.ref))
  len : as.length = n
  each : ∀ (i : Nat) (c : Addr), as[i]? = some c -> H c = some (.lst ((kd i).map vN))
theorem UnderAt.lists {H : Hp} {u : Addr} {as : List Addr} {ab : Ab} (U : UnderAt H u as ab) : ListsAt H u as ab.length (kids ab) := ⟨U.top, U.len, U.each⟩
inductive spDownK (vs : (List V)) (H : Hp) (Q : VK) (e_ : XK) : Prop
  | mk (u : Addr) (as : List Addr) (ab : Ab) (kd : Nat -> List Nat) (r : Nat) (z1_ : vs = [vN r, .ref u]) (z2_ : ListsAt H u as ab.length kd) (z3_ : (∀ k, k < ab.length -> (kd k).Perm (kids ab k))) (z4_ : ab[r]? = some none) (z5_ : ab.length <= 1000) (z6_ : ∀ (o : Addr) (ord : List Nat) (H' : Hp), Same H H' -> H' o = some (.lst (ord.map vN)) -> BfsK ab kd r ord ord.length -> Q (.ref o) H') : spDownK vs H Q e_
def fms (ab : Ab) (m : Option Nat) : List Tx := (List.range ab.length).map (fmM ab m)
theorem fms_len (ab : Ab) (m : Option Nat) : (fms ab m).length = ab.length := by unfold fms; rw [List.length_map, List.length_range]
theorem fms_get {ab : Ab} {m : Option Nat} {k : Nat} (h : k < ab.length) : (fms ab m)[k]? = some (fmM ab m k) := by
  unfold fms
  rw [List.getElem?_map, List.getElem?_range h]
  rfl
inductive spKnots (C : Addr) (vs : (List V)) (H : Hp) (Q : VK) (E : XK) : Prop
  | mk (a : Addr) (A : AI) (m : Option Nat) (z1_ : vs = [.ref a, vO m]) (z2_ : H a = some (.lst (A.map vI))) (z3_ : A.length < 64) (z4_ : (∀ (ab : Ab) (r : Nat) (rk : Nat -> Nat) (p : Addr) (H' : Hp), A = ab.map toI -> Tree ab r rk -> Same H H' -> H p = none -> H' p = some (.lst ((fms ab m).map vT)) -> Q (.ref p) H')) (z5_ : (¬ Rtd A -> ∀ H', Same H H' -> E (.ref C) none H')) : spKnots C vs H Q E
theorem kids_lt_len {ab : Ab} {r : Nat} (hr : ab[r]? = some none) (k : Nat) : (kids ab k).length < ab.length := by
  have nd : (r :: kids ab k).Nodup := List.nodup_cons.mpr ⟨(fun h => (by rw [mem_kids.mp h] at hr; cases hr)), kids_nodup ab k⟩
  have h := nd.length_le_of_subset (l₂ := List.range ab.length) fun j hj => List.mem_range.mpr (by
    rcases List.mem_cons.mp hj with e | e
    . rw [e]; exact (List.getElem?_eq_some_iff.mp hr).1
    . exact kids_lt e)
  rw [List.length_range, List.length_cons] at h
  omega
structure FilledM (ab : Ab) (m : Option Nat) (ord : List Nat) (fs : List Tx) (i : Nat) : Prop where
  len : fs.length = ab.length
  done : ∀ (j k : Nat), ord.length - i <= j -> ord[j]? = some k -> fs[k]? = some (fmM ab m k)
theorem FilledM.kid {ab : Ab} {r : Nat} {m : Option Nat} {ord : List Nat} {fs : List Tx} {i k c : Nat} (B : Bfs ab r ord ord.length) (F : FilledM ab m ord fs i) (hi : i < ord.length) (hk : ord[ord.length - 1 - i]? = some k) (hc : c ∈ kids ab k) : fs[c]? = some (fmM ab m c) := by
  obtain ⟨j, hj, hjc⟩ := B.late _ k c (by omega) hk hc
  exact F.done j c (by omega) hjc
theorem FilledM.step {ab : Ab} {r : Nat} {rk : Nat -> Nat} (T : Tree ab r rk) {m : Option Nat} {ord : List Nat} {fs : List Tx} {i k : Nat} (B : Bfs ab r ord ord.length) (F : FilledM ab m ord fs i) (hi : i < ord.length) (hk : ord[ord.length - 1 - i]? = some k) :
    FilledM ab m ord (fs.set k (brk (srt ((kids ab k).map (fmM ab m) ++ mrk m k)).flatten)) (i + 1) := by
  have hkl : k < ab.length := B.lt k (List.mem_iff_getElem?.mpr ⟨_, hk⟩); refine ⟨by rw [List.length_set]; exact F.len, fun j k' hj hk' => ?_⟩
  rw [List.getElem?_set]
  by_cases e : k = k'
  . subst e
    rw [if_pos rfl, if_pos (by rw [F.len]; exact hkl), T.fmM_eq m hkl]
  . rw [if_neg e]
    refine F.done j k' ?_ hk'
    by_cases h : ord.length - i <= j
    . exact h
    . exfalso
      have : j = ord.length - 1 - i := by omega
      subst this; rw [hk] at hk'; exact e (Option.some.inj hk')
theorem FilledM.all {ab : Ab} {r : Nat} {rk : Nat -> Nat} (T : Tree ab r rk) {m : Option Nat} {ord : List Nat} {fs : List Tx} (B : Bfs ab r ord ord.length) (F : FilledM ab m ord fs ord.length) : fs = fms ab m := by
  refine List.ext_getElem? fun k => ?_
  by_cases h : k < ab.length
  . obtain ⟨j, hj⟩ := List.mem_iff_getElem?.mp (B.all T _ k (Nat.le_refl _) h)
    rw [F.done j k (by omega) hj, fms_get h]
  . rw [List.getElem?_eq_none (by rw [F.len]; omega), List.getElem?_eq_none (by rw [fms_len]; omega)]
end KD
namespace KD
open PySem L2 KM PyProof.Rows
theorem toI_inj : ∀ {a b : Ab}, a.map toI = b.map toI -> a = b := fun {a b} h => by
  have := congrArg (List.map ofI) h
  rwa [map_back, map_back] at this
end KD
namespace KM
section
variable (F F' : Nat -> Tx)
theorem nodup_map {α β : Type} {l : List α} {f : α -> β} (nd : l.Nodup) (h : ∀ a ∈ l, ∀ b ∈ l, f a = f b -> a = b) : (l.map f).Nodup := by
  rw [List.nodup_iff_pairwise_ne] at nd ⊢; refine List.pairwise_map.mpr (nd.imp_of_mem ?_); intro a b ha hb hne e; exact hne (h a ha b hb e)
end
theorem nodup_full {l : List Nat} {n : Nat} (nd : l.Nodup) (h : ∀ c ∈ l, c < n) (hl : l.length = n) : l.Perm (List.range n) := by
  refine (List.perm_ext_iff_of_nodup nd List.nodup_range).mpr fun c => ⟨fun hc => List.mem_range.mpr (h c hc), fun hc => ?_⟩; refine Classical.byContradiction fun hn => ?_; have nd2 : (c :: l).Nodup := List.nodup_cons.mpr ⟨hn, nd⟩
  have h2 := nd2.length_le_of_subset (l₂ := List.range n) fun j hj => by
    rcases List.mem_cons.mp hj with e | e
    . rw [e]; exact hc
    . exact List.mem_range.mpr (h j e)
  rw [List.length_range, List.length_cons] at h2
  omega
end KM
namespace KM
abbrev Ln := List (Nat × Nat)
def nrm (p : Nat × Nat) : Nat × Nat := if p.1 <= p.2 then p else (p.2, p.1)
def nb (k : Nat) (p : Nat × Nat) : List Nat := (if p.1 = k then [p.2] else []) ++ (if p.2 = k then [p.1] else [])
def near (ls : Ln) (k : Nat) : List Nat := ls.flatMap (nb k)
def par (ab : Ab) (k : Nat) : List Nat := match ab[k]? with
  | some (some p) => [p]
  | _ => []
def ed1 (ab : Ab) (k : Nat) : Option (Nat × Nat) := (ab[k]?.getD none).map fun p => (k, p)
def eds (ab : Ab) : Ln := (List.range ab.length).filterMap (ed1 ab)
def FreeOf (ab : Ab) (ls : Ln) : Prop := (ls.map nrm).Perm ((eds ab).map nrm)
theorem nrm_flip (a b : Nat) : nrm (b, a) = nrm (a, b) := by
  unfold nrm
  by_cases h : a <= b
  . by_cases h2 : b <= a
    . have : a = b := by omega
      subst this; rfl
    . rw [if_neg (show ¬ (b, a).1 <= (b, a).2 from h2), if_pos (show (a, b).1 <= (a, b).2 from h)]
  . rw [if_pos (show (b, a).1 <= (b, a).2 by show b <= a; omega), if_neg (show ¬ (a, b).1 <= (a, b).2 from h)]
theorem nrm_cases (p : Nat × Nat) : nrm p = p \/ nrm p = (p.2, p.1) := by
  unfold nrm
  split
  . exact .inl rfl
  . exact .inr rfl
theorem nrm_eq {p q : Nat × Nat} (h : nrm p = nrm q) : q = p \/ q = (p.2, p.1) := by
  obtain ⟨a, b⟩ := p; obtain ⟨c, d⟩ := q
  rcases nrm_cases (a, b) with e | e <;> rcases nrm_cases (c, d) with e' | e' <;> rw [e, e'] at h
  . exact .inl h.symm
  . right
    have h1 := congrArg Prod.fst h; have h2 := congrArg Prod.snd h
    dsimp only at h1 h2
    rw [h1, h2]
  . right
    exact h.symm
  . left
    have h1 := congrArg Prod.fst h; have h2 := congrArg Prod.snd h
    dsimp only at h1 h2
    rw [h1, h2]
theorem nb_flip (k a b : Nat) : (nb k (b, a)).Perm (nb k (a, b)) := List.perm_append_comm
theorem nb_nrm (k : Nat) (p : Nat × Nat) : (nb k (nrm p)).Perm (nb k p) := by
  rcases nrm_cases p with e | e <;> rw [e]
  exact nb_flip k p.1 p.2
theorem flatMap_congr_perm {α β : Type} {f g : α -> List β} : ∀ {l : List α}, (∀ a ∈ l, (f a).Perm (g a)) -> (l.flatMap f).Perm (l.flatMap g)
  | [], _ => .refl _
  | a :: l, h => by
    rw [List.flatMap_cons, List.flatMap_cons]; exact (h a List.mem_cons_self).append (flatMap_congr_perm fun b hb => h b (List.mem_cons_of_mem _ hb))
theorem flatMap_perm {α β : Type} (f : α -> List β) {l l' : List α} (h : l.Perm l') : (l.flatMap f).Perm (l'.flatMap f) := by
  induction h with
  | nil => exact .refl _
  | cons x _ ih => rw [List.flatMap_cons, List.flatMap_cons]; exact ih.append_left _
  | swap x y t =>
    rw [List.flatMap_cons, List.flatMap_cons, List.flatMap_cons, List.flatMap_cons, <- List.append_assoc, <- List.append_assoc]; exact List.perm_append_comm.append_right _
  | trans _ _ i1 i2 => exact i1.trans i2
theorem flatMap_append_perm {α β : Type} (f g : α -> List β) : ∀ l : List α, (l.flatMap fun a => f a ++ g a).Perm (l.flatMap f ++ l.flatMap g)
  | [] => .refl _
  | a :: l => by
    rw [List.flatMap_cons, List.flatMap_cons, List.flatMap_cons]; have ih := flatMap_append_perm f g l; refine ((ih.append_left _)).trans ?_; rw [List.append_assoc, List.append_assoc]; refine List.Perm.append_left _ ?_; rw [<- List.append_assoc, <- List.append_assoc]; exact List.perm_append_comm.append_right _
theorem near_nrm (ls : Ln) (k : Nat) : (near (ls.map nrm) k).Perm (near ls k) := by
  unfold near
  rw [List.flatMap_map]; exact flatMap_congr_perm fun p _ => nb_nrm k p
theorem near_perm {ls ls' : Ln} (h : (ls.map nrm).Perm (ls'.map nrm)) (k : Nat) : (near ls k).Perm (near ls' k) :=
  ((near_nrm ls k).symm.trans (flatMap_perm _ h)).trans (near_nrm ls' k)
theorem mem_near {ls : Ln} {k c : Nat} : c ∈ near ls k ↔ (k, c) ∈ ls \/ (c, k) ∈ ls := by
  unfold near
  rw [List.mem_flatMap]
  constructor
  . rintro ⟨⟨a, b⟩, hp, h⟩
    unfold nb at h
    rcases List.mem_append.mp h with h | h
    . split at h
      . rename_i e
        have e' : a = k := e; have h' : c = b := List.mem_singleton.mp (by assumption)
        rw [<- e', h']; exact .inl hp
      . cases h
    . split at h
      . rename_i e
        have e' : b = k := e; have h' : c = a := List.mem_singleton.mp (by assumption)
        rw [<- e', h']; exact .inr hp
      . cases h
  . rintro (h | h)
    . exact ⟨_, h, List.mem_append.mpr (.inl (by show c ∈ (if k = k then [c] else []); rw [if_pos rfl]; exact List.mem_singleton.mpr rfl))⟩
    . exact ⟨_, h, List.mem_append.mpr (.inr (by show c ∈ (if k = k then [c] else []); rw [if_pos rfl]; exact List.mem_singleton.mpr rfl))⟩
theorem near_symm {ls : Ln} {k c : Nat} (h : c ∈ near ls k) : k ∈ near ls c := mem_near.mpr ((mem_near.mp h).symm)
def oL {β γ : Type} (g : β -> List γ) : Option β -> List γ
  | some b => g b
  | none => []
theorem flatMap_filterMap' {α β γ : Type} (f : α -> Option β) (g : β -> List γ) : ∀ l : List α, (l.filterMap f).flatMap g = l.flatMap fun a => oL g (f a)
  | [] => rfl
  | a :: l => by
    rw [List.flatMap_cons, List.filterMap_cons]
    cases f a with
    | none => show _ = [] ++ _; rw [List.nil_append]; exact flatMap_filterMap' f g l
    | some b => show (b :: _).flatMap g = g b ++ _; rw [List.flatMap_cons, flatMap_filterMap' f g l]
theorem flatMap_one {k n : Nat} (hk : k < n) (x : List Nat) : ((List.range n).flatMap fun j => if j = k then x else []) = x := by
  induction n with
  | zero => omega
  | succ n ih =>
    rw [List.range_succ, List.flatMap_append]
    by_cases e : k = n
    . subst e
      have z : ((List.range k).flatMap fun j => if j = k then x else []) = [] := by
        rw [List.flatMap_eq_nil_iff]; intro j hj; rw [if_neg (by have := List.mem_range.mp hj; omega)]
      rw [z]
      simp
    . rw [ih (by omega)]
      have : ([n].flatMap fun j => if j = k then x else []) = [] := by
        show (if n = k then x else []) ++ [] = []
        rw [if_neg (Ne.symm e)]
        rfl
      rw [this, List.append_nil]
theorem flatMap_if {p : Nat -> Bool} : ∀ l : List Nat, (l.flatMap fun j => if p j then [j] else []) = l.filter p
  | [] => rfl
  | a :: l => by
    rw [List.flatMap_cons, flatMap_if l]
    by_cases h : p a = true
    . rw [if_pos h, List.filter_cons_of_pos h]; rfl
    . rw [if_neg h, List.filter_cons_of_neg h]; rfl
section
variable {ab : Ab} {r : Nat} {rk : Nat -> Nat}
theorem near_eds {k : Nat} (hk : k < ab.length) : (near (eds ab) k).Perm (kids ab k ++ par ab k) := by
  unfold near eds
  rw [flatMap_filterMap']
  have e : (fun j => oL (nb k) (ed1 ab j)) = fun j => (if j = k then par ab k else []) ++ (if ab[j]? == some (some k) then [j] else []) := by
    funext j
    unfold ed1
    cases q : ab[j]?.getD none with
    | none =>
      have h1 : (if j = k then par ab k else []) = [] := by
        split
        . rename_i z
          subst z
          unfold par
          cases q2 : ab[j]? with
          | none => rfl
          | some o => rw [q2] at q; cases o with
            | none => rfl
            | some p => cases q
        . rfl
      have h2 : (ab[j]? == some (some k)) = false := by
        rw [beq_eq_false_iff_ne]; intro z; rw [z] at q
        cases q
      rw [h1, h2]
      rfl
    | some p =>
      have hp : ab[j]? = some (some p) := by
        cases q2 : ab[j]? with
        | none => rw [q2] at q; cases q
        | some o => rw [q2] at q; exact congrArg some q
      show (if j = k then [p] else []) ++ (if p = k then [j] else []) = _
      congr 1
      . split
        . rename_i z
          subst z
          unfold par
          rw [hp]
        . rfl
      . rw [hp]
        by_cases z : p = k
        . subst z; rw [if_pos rfl, if_pos (beq_self_eq_true _)]
        . rw [if_neg z, if_neg]
          intro z2; exact z (Option.some.inj (Option.some.inj (eq_of_beq z2)))
  rw [e]; refine (flatMap_append_perm _ _ _).trans ?_; rw [flatMap_one hk, flatMap_if]; exact List.perm_append_comm
theorem FreeOf.near {ls : Ln} (f : FreeOf ab ls) {k : Nat} (hk : k < ab.length) : (near ls k).Perm (kids ab k ++ par ab k) := (near_perm f k).trans (near_eds hk)
theorem mem_par {k p : Nat} : p ∈ par ab k ↔ ab[k]? = some (some p) := by
  unfold par
  split
  . rename_i q h
    rw [h, List.mem_singleton]
    constructor
    . rintro rfl; rfl
    . intro z; exact (Option.some.inj (Option.some.inj z)).symm
  . rename_i h
    constructor
    . intro z; cases z
    . intro z; exact absurd z (h p)
theorem FreeOf.joined {ls : Ln} (f : FreeOf ab ls) {k : Nat} (hk : k < ab.length) (c : Nat) : c ∈ KM.near ls k ↔ ab[c]? = some (some k) \/ ab[k]? = some (some c) := by
  rw [(f.near hk).mem_iff, List.mem_append, mem_kids, mem_par]
theorem tree_uniq {ab' : Ab} {rk' : Nat -> Nat} {ls : Ln} (T : Tree ab r rk) (T' : Tree ab' r rk') (f : FreeOf ab ls) (f' : FreeOf ab' ls) (hl : ab'.length = ab.length) : ab' = ab := by
  have key : ∀ (d k : Nat), rk k <= d -> k < ab.length -> ab'[k]? = ab[k]? := by
    intro d
    induction d with
    | zero =>
      intro k hd hk
      cases q : ab[k] with
      | none =>
        have := T.only k (by rw [List.getElem?_eq_getElem hk, q])
        subst this; rw [T.root, T'.root]
      | some p =>
        have := (T.up k p (by rw [List.getElem?_eq_getElem hk, q])).2
        omega
    | succ d ih =>
      intro k hd hk
      cases q : ab[k] with
      | none =>
        have := T.only k (by rw [List.getElem?_eq_getElem hk, q])
        subst this; rw [T.root, T'.root]
      | some p =>
        have hp : ab[k]? = some (some p) := by rw [List.getElem?_eq_getElem hk, q]
        obtain ⟨h1, h2⟩ := T.up k p hp; have e := ih p (by omega) h1
        rcases (f'.joined (by omega) p).mp ((f.joined hk p).mpr (.inr hp)) with z | z
        . rw [e] at z
          have := (T.up p k z).2
          omega
        . rw [z, hp]
  refine List.ext_getElem? fun k => ?_
  by_cases hk : k < ab.length
  . exact key _ k (Nat.le_refl _) hk
  . rw [List.getElem?_eq_none (by omega), List.getElem?_eq_none (by omega)]
theorem FreeOf.closed {ls : Ln} (T : Tree ab r rk) (f : FreeOf ab ls) {S : Nat -> Prop} {v : Nat} (hv : v < ab.length) (h0 : S v) (hc : ∀ k c, k < ab.length -> S k -> c ∈ KM.near ls k -> S c) : ∀ k, k < ab.length -> S k := by
  have hr : S r := by
    have up : ∀ (d k : Nat), rk k <= d -> k < ab.length -> S k -> S r := by
      intro d
      induction d with
      | zero =>
        intro k hd hk hs
        cases q : ab[k] with
        | none => rw [<- T.only k (by rw [List.getElem?_eq_getElem hk, q])]; exact hs
        | some p => have := (T.up k p (by rw [List.getElem?_eq_getElem hk, q])).2; omega
      | succ d ih =>
        intro k hd hk hs
        cases q : ab[k] with
        | none => rw [<- T.only k (by rw [List.getElem?_eq_getElem hk, q])]; exact hs
        | some p =>
          have hp : ab[k]? = some (some p) := by rw [List.getElem?_eq_getElem hk, q]
          obtain ⟨h1, h2⟩ := T.up k p hp; exact ih p (by omega) h1 (hc k p hk hs ((f.joined hk p).mpr (.inr hp)))
    exact up _ v (Nat.le_refl _) hv h0
  have down : ∀ (d k : Nat), rk k <= d -> k < ab.length -> S k := by
    intro d
    induction d with
    | zero =>
      intro k hd hk
      cases q : ab[k] with
      | none => rw [T.only k (by rw [List.getElem?_eq_getElem hk, q])]; exact hr
      | some p => have := (T.up k p (by rw [List.getElem?_eq_getElem hk, q])).2; omega
    | succ d ih =>
      intro k hd hk
      cases q : ab[k] with
      | none => rw [T.only k (by rw [List.getElem?_eq_getElem hk, q])]; exact hr
      | some p =>
        have hp : ab[k]? = some (some p) := by rw [List.getElem?_eq_getElem hk, q]
        obtain ⟨h1, h2⟩ := T.up k p hp; exact hc p k h1 (ih p (by omega) h1) ((f.joined h1 k).mpr (.inl hp))
  exact fun k hk => down _ k (Nat.le_refl _) hk
end
theorem sub_perm {α : Type} [BEq α] [LawfulBEq α] : ∀ {l l' : List α}, l.Nodup -> (∀ x ∈ l, x ∈ l') -> l'.length <= l.length -> l.Perm l'
  | [], l', _, _, h => by
    have : l' = [] := List.eq_nil_of_length_eq_zero (Nat.le_zero.mp h); rw [this]
  | x :: t, l', nd, hs, h => by
    obtain ⟨n1, n2⟩ := List.nodup_cons.mp nd; have hx := hs x List.mem_cons_self; have p := List.perm_cons_erase hx; have hlen := p.length_eq; rw [List.length_cons] at hlen h; refine List.Perm.trans ((List.perm_cons x).mpr (sub_perm n2 (fun y hy => ?_) (by omega))) p.symm
    exact (List.mem_erase_of_ne (fun z => n1 (by rw [<- z]; exact hy))).mpr (hs y (List.mem_cons_of_mem _ hy))
section
variable {ab : Ab} {r : Nat} {rk : Nat -> Nat}
theorem eds_fst : (eds ab).map Prod.fst = (List.range ab.length).filter fun k => (ab[k]?.getD none).isSome := by
  unfold eds
  generalize List.range ab.length = l
  induction l with
  | nil => rfl
  | cons a l ih =>
    rw [List.filterMap_cons]
    unfold ed1 at ih ⊢
    cases q : ab[a]?.getD none with
    | none => rw [List.filter_cons_of_neg (by rw [q]; simp)]; exact ih
    | some p => rw [List.filter_cons_of_pos (by rw [q]; rfl)]; show a :: _ = _; rw [<- ih]
theorem Tree.eds_len (T : Tree ab r rk) : (eds ab).length + 1 = ab.length := by
  have h : (r :: (eds ab).map Prod.fst).Perm (List.range ab.length) := by
    rw [eds_fst]; refine (List.perm_ext_iff_of_nodup (List.nodup_cons.mpr ⟨fun z => ?_, List.nodup_range.sublist List.filter_sublist⟩) List.nodup_range).mpr fun k => ?_
    . have := (List.mem_filter.mp z).2
      rw [T.root] at this
      cases this
    . rw [List.mem_cons, List.mem_filter, List.mem_range]
      constructor
      . rintro (rfl | h)
        . exact T.rlt
        . exact h.1
      . intro hk
        cases q : ab[k] with
        | none => exact .inl (T.only k (by rw [List.getElem?_eq_getElem hk, q]))
        | some p => exact .inr ⟨hk, by rw [List.getElem?_eq_getElem hk, q]; rfl⟩
  have := h.length_eq; rw [List.length_cons, List.length_map, List.length_range] at this; exact this
theorem mem_eds {k p : Nat} : (k, p) ∈ eds ab ↔ ab[k]? = some (some p) := by
  unfold eds
  rw [List.mem_filterMap]
  constructor
  . rintro ⟨j, _, h⟩
    unfold ed1 at h
    cases q : ab[j]?.getD none with
    | none => rw [q] at h; cases h
    | some x =>
      rw [q] at h; have e := Option.some.inj h; have e1 : j = k := congrArg Prod.fst e; have e2 : x = p := congrArg Prod.snd e; subst e1 e2
      cases q2 : ab[j]? with
      | none => rw [q2] at q; cases q
      | some o => rw [q2] at q; exact congrArg some q
  . intro h
    refine ⟨k, List.mem_range.mpr (List.getElem?_eq_some_iff.mp h).1, ?_⟩
    unfold ed1
    rw [h]
    rfl
theorem Tree.eds_nodup (T : Tree ab r rk) : ((eds ab).map nrm).Nodup := by
  have nd : (eds ab).Nodup := by
    have : ((eds ab).map Prod.fst).Nodup := by rw [eds_fst]; exact List.nodup_range.sublist List.filter_sublist
    rw [List.nodup_iff_pairwise_ne] at this ⊢; exact (List.pairwise_map.mp this).imp fun h z => h (by rw [z])
  refine nodup_map nd fun a ha b hb e => ?_; obtain ⟨k, p⟩ := a; obtain ⟨k', p'⟩ := b
  rcases nrm_eq e with z | z
  . exact z.symm
  . have h1 := (T.up k p (mem_eds.mp ha)).2
    have h2 := (T.up k' p' (mem_eds.mp hb)).2; have z1 : k' = p := congrArg Prod.fst z; have z2 : p' = k := congrArg Prod.snd z; subst z1 z2
    omega
theorem Tree.freeOf (T : Tree ab r rk) {ls : Ln} (hn : ls.length + 1 = ab.length) (h : ∀ k p, ab[k]? = some (some p) -> p ∈ near ls k) : FreeOf ab ls := by
  have hl := T.eds_len; refine (sub_perm T.eds_nodup (fun x hx => ?_) (by rw [List.length_map, List.length_map]; omega)).symm
  obtain ⟨⟨k, p⟩, hkp, rfl⟩ := List.mem_map.mp hx
  rcases mem_near.mp (h k p (mem_eds.mp hkp)) with z | z
  . exact List.mem_map.mpr ⟨_, z, rfl⟩
  . exact List.mem_map.mpr ⟨_, z, nrm_flip k p⟩
theorem FreeOf.len (T : Tree ab r rk) {ls : Ln} (f : FreeOf ab ls) : ls.length + 1 = ab.length := by
  have h1 := T.eds_len; have h2 := f.length_eq; rw [List.length_map, List.length_map] at h2
  omega
theorem FreeOf.lt (T : Tree ab r rk) {ls : Ln} (f : FreeOf ab ls) {p : Nat × Nat} (h : p ∈ ls) : p.1 < ab.length /\ p.2 < ab.length := by
  obtain ⟨⟨k, q⟩, hq, e⟩ := List.mem_map.mp (f.mem_iff.mp (List.mem_map.mpr ⟨p, h, rfl⟩)); have hk := mem_eds.mp hq; have h1 := (List.getElem?_eq_some_iff.mp hk).1; have h2 := (T.up k q hk).1
  rcases nrm_eq e with z | z
  . rw [z]; exact ⟨h1, h2⟩
  . rw [z]; exact ⟨h2, h1⟩
end
end KM
namespace KM
structure GB (ls : Ln) (n v : Nat) (ord : List Nat) (pa : Nat -> Option Nat) (pl : Nat) : Prop where
  nd : ord.Nodup
  lt : ∀ k ∈ ord, k < n
  head : ∃ t, ord = v :: t
  pav : pa v = none
  up : ∀ (j c : Nat), 0 < j -> ord[j]? = some c -> ∃ (i k : Nat), i < j /\ ord[i]? = some k /\ pa c = some k /\ c ∈ near ls k
  le : pl <= ord.length
  closed : ∀ (i k : Nat), i < pl -> ord[i]? = some k -> ∀ c ∈ near ls k, c ∈ ord
section
variable {ls : Ln} {n v : Nat} {ord : List Nat} {pa : Nat -> Option Nat} {pl : Nat}
theorem gb0 (hv : v < n) : GB ls n v [v] (fun _ => none) 0 where
  nd := by simp
  lt := by intro k hk; rw [List.mem_singleton] at hk; subst hk; exact hv
  head := ⟨[], rfl⟩
  pav := rfl
  up := by
    intro j c hj h; rw [List.getElem?_eq_none (show [v].length <= j from hj)] at h
    cases h
  le := Nat.zero_le _
  closed := by intro i k h; omega
theorem GB.meet (B : GB ls n v ord pa pl) {k c : Nat} (hk : ord[pl]? = some k) (hc : c ∈ near ls k) (hn : c ∉ ord) (hcl : c < n) : GB ls n v (ord ++ [c]) (fun j => if j = c then some k else pa j) pl where
  nd := by
    rw [List.nodup_append]; refine ⟨B.nd, by simp, fun a ha b hb e => ?_⟩
    rw [List.mem_singleton] at hb; subst hb e; exact hn ha
  lt := by
    intro j hj
    rcases List.mem_append.mp hj with h | h
    . exact B.lt j h
    . rw [List.mem_singleton] at h; subst h; exact hcl
  head := by
    obtain ⟨t, e⟩ := B.head; exact ⟨t ++ [c], by rw [e]; rfl⟩
  pav := by
    obtain ⟨t, e⟩ := B.head
    show (if v = c then some k else pa v) = none
    rw [if_neg, B.pav]; intro z; exact hn (by rw [<- z, e]; exact List.mem_cons_self)
  up := by
    intro j d hj h
    by_cases hjl : j < ord.length
    . rw [List.getElem?_append_left hjl] at h
      obtain ⟨i, a, h1, h2, h3, h4⟩ := B.up j d hj h; refine ⟨i, a, h1, by rw [List.getElem?_append_left (by omega)]; exact h2, ?_, h4⟩
      show (if d = c then some k else pa d) = some a
      rw [if_neg, h3]; intro z; exact hn (z ▸ List.mem_of_getElem? h)
    . have hpl := (List.getElem?_eq_some_iff.mp hk).1
      rw [List.getElem?_append_right (by omega)] at h
      have hd : d = c := by
        have := List.mem_of_getElem? h; exact List.mem_singleton.mp this
      subst hd; exact ⟨pl, k, by omega, by rw [List.getElem?_append_left hpl]; exact hk, if_pos rfl, hc⟩
  le := by rw [List.length_append]; have := B.le; omega
  closed := by
    intro i a hi h d hd; have := B.le; rw [List.getElem?_append_left (by omega)] at h
    exact List.mem_append.mpr (.inl (B.closed i a hi h d hd))
theorem GB.next (B : GB ls n v ord pa pl) {k : Nat} (hk : ord[pl]? = some k) (h : ∀ c ∈ near ls k, c ∈ ord) : GB ls n v ord pa (pl + 1) :=
  ⟨B.nd, B.lt, B.head, B.pav, B.up, (List.getElem?_eq_some_iff.mp hk).1, fun i a hi ha => by
    by_cases e : i < pl
    . exact B.closed i a e ha
    . have : i = pl := by omega
      subst this; rw [hk] at ha
      cases ha
      exact h⟩
theorem GB.len (B : GB ls n v ord pa pl) : ord.length <= n := by
  have h := B.nd.length_le_of_subset (l₂ := List.range n) fun k hk => List.mem_range.mpr (B.lt k hk); rw [List.length_range] at h; exact h
def hung (n : Nat) (pa : Nat -> Option Nat) : Ab := (List.range n).map pa
theorem hung_len : (hung n pa).length = n := by unfold hung; rw [List.length_map, List.length_range]
theorem hung_get {k : Nat} (h : k < n) : (hung n pa)[k]? = some (pa k) := by unfold hung; rw [List.getElem?_map, List.getElem?_range h]; rfl
theorem GB.tree (B : GB ls n v ord pa pl) (hw : ord.length = n) : Tree (hung n pa) v (fun k => ord.idxOf k) /\ ∀ (k p : Nat), (hung n pa)[k]? = some (some p) -> p ∈ near ls k := by
  have pm := nodup_full B.nd B.lt hw; have hmem : ∀ k, k < n -> k ∈ ord := fun k hk => pm.mem_iff.mpr (List.mem_range.mpr hk)
  have hv : v < n := by
    obtain ⟨t, e⟩ := B.head; exact B.lt v (by rw [e]; exact List.mem_cons_self)
  have key : ∀ (k : Nat), k < n -> (k = v /\ pa k = none) \/ ∃ (i j p : Nat), i < j /\ ord[j]? = some k /\ ord[i]? = some p /\ pa k = some p /\ k ∈ near ls p := by
    intro k hk; obtain ⟨j, hj⟩ := List.mem_iff_getElem?.mp (hmem k hk)
    by_cases h0 : 0 < j
    . obtain ⟨i, p, h1, h2, h3, h4⟩ := B.up j k h0 hj
      exact .inr ⟨i, j, p, h1, hj, h2, h3, h4⟩
    . have : j = 0 := by omega
      subst this; obtain ⟨t, e⟩ := B.head; rw [e] at hj; have : v = k := Option.some.inj hj; subst this; exact .inl ⟨rfl, B.pav⟩
  have get : ∀ (k : Nat) (o : Option Nat), (hung n pa)[k]? = some o -> k < n /\ pa k = o := by
    intro k o h; have hk : k < n := by have := (List.getElem?_eq_some_iff.mp h).1; rwa [hung_len] at this
    rw [hung_get hk] at h; exact ⟨hk, Option.some.inj h⟩
  refine ⟨⟨by rw [hung_get hv, B.pav], fun k h => ?_, fun k p h => ?_, fun k h => ?_⟩, fun k p h => ?_⟩
  . obtain ⟨hk, e⟩ := get k _ h
    rcases key k hk with z | ⟨_, _, p, _, _, _, z, _⟩
    . exact z.1
    . rw [e] at z; cases z
  . obtain ⟨hk, e⟩ := get k _ h
    rcases key k hk with z | ⟨i, j, q, h1, h2, h3, z, _⟩
    . rw [e] at z; cases z.2
    . rw [e] at z
      cases z
      rw [hung_len]; refine ⟨B.lt p (List.mem_of_getElem? h3), ?_⟩
      show ord.idxOf p < ord.idxOf k
      rw [idx_of B.nd h2, idx_of B.nd h3]; exact h1
  . rw [hung_len] at h ⊢
    have := List.idxOf_lt_length_of_mem (hmem k h)
    show ord.idxOf k < n
    omega
  . obtain ⟨hk, e⟩ := get k _ h
    rcases key k hk with z | ⟨_, _, q, _, _, _, z, h4⟩
    . rw [e] at z; cases z.2
    . rw [e] at z
      cases z
      exact near_symm h4
theorem GB.free (B : GB ls n v ord pa pl) (hw : ord.length = n) (hn : ls.length + 1 = n) : FreeOf (hung n pa) ls :=
  (B.tree hw).1.freeOf (by rw [hung_len]; exact hn) (B.tree hw).2
theorem GB.whole {ab : Ab} {r : Nat} {rk : Nat -> Nat} (T : Tree ab r rk) (f : FreeOf ab ls) (B : GB ls ab.length v ord pa ord.length) : ord.length = ab.length := by
  have hv : v < ab.length := by
    obtain ⟨t, e⟩ := B.head; exact B.lt v (by rw [e]; exact List.mem_cons_self)
  have all := f.closed T (S := fun k => k ∈ ord) hv (by obtain ⟨t, e⟩ := B.head; rw [e]; exact List.mem_cons_self) fun k c hk hs hc => by
    obtain ⟨i, hi⟩ := List.mem_iff_getElem?.mp hs; exact B.closed i k (List.getElem?_eq_some_iff.mp hi).1 hi c hc
  have h1 := B.len; have h2 := List.nodup_range.length_le_of_subset (l₁ := List.range ab.length) (l₂ := ord) fun j hj => all j (List.mem_range.mp hj); rw [List.length_range] at h2
  omega
end
def IsFree (n : Nat) (ls : Ln) : Prop := ∃ (ab : Ab) (r : Nat) (rk : Nat -> Nat), Tree ab r rk /\ ab.length = n /\ FreeOf ab ls
def RootedAt (n : Nat) (ls : Ln) (v : Nat) (ab : Ab) : Prop := ab.length = n /\ (∃ rk, Tree ab v rk) /\ FreeOf ab ls
theorem RootedAt.uniq {n v : Nat} {ls : Ln} {ab ab' : Ab} (h : RootedAt n ls v ab) (h' : RootedAt n ls v ab') : ab' = ab := by
  obtain ⟨l, ⟨rk, T⟩, f⟩ := h; obtain ⟨l', ⟨rk', T'⟩, f'⟩ := h'; exact tree_uniq T T' f f' (by omega)
theorem GB.rooted {ls : Ln} {n v : Nat} {ord : List Nat} {pa : Nat -> Option Nat} {pl : Nat} (B : GB ls n v ord pa pl) (hw : ord.length = n) (hn : ls.length + 1 = n) : RootedAt n ls v (hung n pa) :=
  ⟨hung_len, ⟨_, (B.tree hw).1⟩, B.free hw hn⟩
theorem near_lt {ls : Ln} {n k c : Nat} (hlt : ∀ p ∈ ls, p.1 < n /\ p.2 < n) (h : c ∈ near ls k) : c < n := by
  rcases mem_near.mp h with z | z
  . exact (hlt _ z).2
  . exact (hlt _ z).1
theorem gb_ex {ls : Ln} {n v : Nat} (hv : v < n) (hlt : ∀ p ∈ ls, p.1 < n /\ p.2 < n) : ∃ ord pa, GB ls n v ord pa ord.length := by
  have inner : ∀ (l : List Nat) (k : Nat) {ord : List Nat} {pa : Nat -> Option Nat} {pl : Nat}, GB ls n v ord pa pl -> ord[pl]? = some k -> (∀ c ∈ l, c ∈ near ls k) ->
      ∃ ord' pa', GB ls n v ord' pa' pl /\ ord'[pl]? = some k /\ (∀ c ∈ ord, c ∈ ord') /\ ∀ c ∈ l, c ∈ ord' := by
    intro l
    induction l with
    | nil => intro k ord pa pl B hk _; exact ⟨ord, pa, B, hk, fun c h => h, fun c h => nomatch h⟩
    | cons c l ih =>
      intro k ord pa pl B hk hl
      by_cases hc : c ∈ ord
      . obtain ⟨o, p, B', hk', h1, h2⟩ := ih k B hk fun d hd => hl d (List.mem_cons_of_mem _ hd)
        refine ⟨o, p, B', hk', h1, fun d hd => ?_⟩
        rcases List.mem_cons.mp hd with rfl | hd
        . exact h1 _ hc
        . exact h2 d hd
      . have B1 := B.meet hk (hl c List.mem_cons_self) hc (near_lt hlt (hl c List.mem_cons_self))
        obtain ⟨o, p, B', hk', h1, h2⟩ := ih k B1 (by rw [List.getElem?_append_left (List.getElem?_eq_some_iff.mp hk).1]; exact hk) fun d hd => hl d (List.mem_cons_of_mem _ hd)
        refine ⟨o, p, B', hk', fun d hd => h1 d (List.mem_append.mpr (.inl hd)), fun d hd => ?_⟩
        rcases List.mem_cons.mp hd with rfl | hd
        . exact h1 _ (List.mem_append.mpr (.inr (List.mem_singleton.mpr rfl)))
        . exact h2 d hd
  have outer : ∀ (d : Nat) {ord : List Nat} {pa : Nat -> Option Nat} {pl : Nat}, GB ls n v ord pa pl -> n - pl <= d -> ∃ ord pa, GB ls n v ord pa ord.length := by
    intro d
    induction d with
    | zero =>
      intro ord pa pl B h; have h1 := B.len; have h2 := B.le; have : pl = ord.length := by omega
      subst this; exact ⟨ord, pa, B⟩
    | succ d ih =>
      intro ord pa pl B h
      by_cases e : pl = ord.length
      . subst e; exact ⟨ord, pa, B⟩
      . have h2 := B.le
        have hl : pl < ord.length := by omega
        obtain ⟨o, p, B', hk', _, h3⟩ := inner (near ls ord[pl]) ord[pl] B (List.getElem?_eq_getElem hl) fun c h => h; exact ih (B'.next hk' h3) (by omega)
  exact outer _ (gb0 hv) (Nat.le_refl _)
theorem rooted_ex {n : Nat} {ls : Ln} (h : IsFree n ls) {v : Nat} (hv : v < n) : ∃ ab, RootedAt n ls v ab := by
  obtain ⟨ab, r, rk, T, rfl, f⟩ := h; obtain ⟨ord, pa, B⟩ := gb_ex hv (fun p hp => f.lt T hp); exact ⟨_, B.rooted (B.whole T f) (f.len T)⟩
theorem isFree_of {n : Nat} {ls : Ln} {v : Nat} {ab : Ab} (h : RootedAt n ls v ab) : IsFree n ls := by
  obtain ⟨l, ⟨rk, T⟩, f⟩ := h; exact ⟨ab, v, rk, T, l, f⟩
inductive Dep (ab : Ab) : Nat -> Nat -> Prop
  | root {k : Nat} : ab[k]? = some none -> Dep ab k 0
  | up {k p d : Nat} : ab[k]? = some (some p) -> Dep ab p d -> Dep ab k (d + 1)
theorem Dep.det {ab : Ab} {k d d' : Nat} (h : Dep ab k d) (h' : Dep ab k d') : d = d' := by
  induction h generalizing d' with
  | root e =>
    cases h' with
    | root => rfl
    | up e' => rw [e] at e'; cases e'
  | up e _ ih =>
    cases h' with
    | root e' => rw [e] at e'; cases e'
    | up e' h' =>
      rw [e] at e'
      cases e'
      rw [ih h']
theorem Tree.dep {ab : Ab} {r : Nat} {rk : Nat -> Nat} (T : Tree ab r rk) : ∀ (b k : Nat), rk k <= b -> k < ab.length -> ∃ d, Dep ab k d /\ d <= rk k
  | b, k, hb, hk => by
    cases q : ab[k] with
    | none => exact ⟨0, .root (by rw [List.getElem?_eq_getElem hk, q]), Nat.zero_le _⟩
    | some p =>
      have hp : ab[k]? = some (some p) := by rw [List.getElem?_eq_getElem hk, q]
      obtain ⟨h1, h2⟩ := T.up k p hp
      match b, hb with
      | 0, hb => omega
      | b + 1, hb =>
        obtain ⟨d, hd, hle⟩ := T.dep b p (by omega) h1
        exact ⟨d + 1, .up hp hd, by omega⟩
end KM
namespace KM
section
variable {A B : Ab} {u v : Nat} {rk rk' : Nat -> Nat} {ls : Ln}
inductive UpN (A : Ab) (x : Nat) : Nat -> Nat -> Prop
  | zero : UpN A x x 0
  | succ {a p i : Nat} : UpN A x a i -> A[a]? = some (some p) -> UpN A x p (i + 1)
theorem UpN.front {x y a i : Nat} (h : UpN A y a i) (e : A[x]? = some (some y)) : UpN A x a (i + 1) := by
  induction h with
  | zero => exact UpN.zero.succ e
  | succ _ e2 ih => exact ih.succ e2
theorem Dep.upN (T : Tree A u rk) {x d : Nat} (h : Dep A x d) : UpN A x u d := by
  induction h with
  | root e =>
    have := T.only _ e; subst this; exact .zero
  | up e _ ih => exact ih.front e
theorem UpN.turn (T : Tree A u rk) (T' : Tree B v rk') (f : FreeOf A ls) (f' : FreeOf B ls) (hl : B.length = A.length) {w d : Nat} (hw : Dep B w d) (h0 : ∀ p, A[w]? = some (some p) -> B[p]? = some (some w)) {a i : Nat} (h : UpN A w a i) :
    Dep B a (d + i) /\ ∀ p, A[a]? = some (some p) -> B[p]? = some (some a) := by
  induction h with
  | zero => exact ⟨hw, h0⟩
  | @succ a p i _ e ih =>
    obtain ⟨h1, h2⟩ := ih; have hp := h2 p e; refine ⟨.up hp h1, fun q hq => ?_⟩; have hpl := (T.up a p e).1; have r1 := (T.up a p e).2; have r2 := (T.up p q hq).2
    rcases (f'.joined (show p < B.length by omega) q).mp ((f.joined hpl q).mpr (.inr hq)) with z | z
    . exact z
    . rw [hp] at z
      have : a = q := Option.some.inj (Option.some.inj z); subst this
      omega
theorem dep_symm (T : Tree A u rk) (T' : Tree B v rk') (f : FreeOf A ls) (f' : FreeOf B ls) (hl : B.length = A.length) {d : Nat} (h : Dep A v d) : Dep B u d := by
  have := (UpN.turn T T' f f' hl (.root T'.root) (fun p hp => ?_) (h.upN T)).1
  . rwa [Nat.zero_add] at this
  . have hv : v < A.length := (List.getElem?_eq_some_iff.mp hp).1
    rcases (f'.joined (show v < B.length by omega) p).mp ((f.joined hv p).mpr (.inr hp)) with z | z
    . exact z
    . rw [T'.root] at z; cases z
end
structure Ecc (n : Nat) (ls : Ln) (v e : Nat) : Prop where
  most : ∀ (ab : Ab) (k d : Nat), RootedAt n ls v ab -> k < n -> Dep ab k d -> d <= e
  there : ∀ (ab : Ab), RootedAt n ls v ab -> ∃ k, k < n /\ Dep ab k e
theorem Ecc.det {n : Nat} {ls : Ln} (F : IsFree n ls) {v e e' : Nat} (hv : v < n) (h : Ecc n ls v e) (h' : Ecc n ls v e') : e = e' := by
  obtain ⟨ab, R⟩ := rooted_ex F hv; obtain ⟨k, hk, hd⟩ := h.there ab R; obtain ⟨k', hk', hd'⟩ := h'.there ab R; have h1 := h'.most ab k e R hk hd; have h2 := h.most ab k' e' R hk' hd'
  omega
theorem middles_joined {n : Nat} {ls : Ln} (F : IsFree n ls) {u v e : Nat} (hu : u < n) (hv : v < n) (hne : u ≠ v) (eu : Ecc n ls u e) (ev : Ecc n ls v e) (hmin : ∀ w e', w < n -> Ecc n ls w e' -> e <= e') : v ∈ near ls u := by
  obtain ⟨A, RA⟩ := rooted_ex F hu; obtain ⟨lA, ⟨rk, T⟩, fA⟩ := id RA; refine Classical.byContradiction fun hn => ?_; have hvA : v < A.length := by omega
  cases q : A[v] with
  | none => exact hne (T.only v (by rw [List.getElem?_eq_getElem hvA, q])).symm
  | some w =>
    have hw : A[v]? = some (some w) := by rw [List.getElem?_eq_getElem hvA, q]
    obtain ⟨hwl, hwr⟩ := T.up v w hw; have hwu : w ≠ u := fun z => hn (by rw [<- z]; exact (fA.joined hwl v).mpr (.inl hw))
    cases q2 : A[w] with
    | none => exact hwu (T.only w (by rw [List.getElem?_eq_getElem hwl, q2]))
    | some q2' =>
      have hq : A[w]? = some (some q2') := by rw [List.getElem?_eq_getElem hwl, q2]
      obtain ⟨hql, hqr⟩ := T.up w q2' hq
      -- the farness of w is less
      obtain ⟨C, RC⟩ := rooted_ex F (show w < n by omega)
      obtain ⟨lC, ⟨rkC, TC⟩, fC⟩ := id RC
      have less : ∀ x d, x < n -> Dep C x d -> d + 1 <= e := by
        intro x d hx hd; obtain ⟨B, RB⟩ := rooted_ex F hx; obtain ⟨lB, ⟨rkB, TB⟩, fB⟩ := id RB; have hdB : Dep B w d := dep_symm TC TB fC fB (by omega) hd
        have toE : ∀ {y dy : Nat}, y < n -> Ecc n ls y e -> Dep B y dy -> dy <= e := by
          intro y dy hy ey hdy; obtain ⟨Y, RY⟩ := rooted_ex F hy; obtain ⟨lY, ⟨rkY, TY⟩, fY⟩ := id RY; exact ey.most Y x dy RY hx (dep_symm TB TY fB fY (by omega) hdy)
        rcases (fB.joined (show v < B.length by omega) w).mp ((fA.joined hvA w).mpr (.inr hw)) with z | z
        . -- B[w] = v: from w upward in A is downward in B
          have h0 : ∀ p, A[w]? = some (some p) -> B[p]? = some (some w) := by
            intro p hp; rw [hq] at hp; have : q2' = p := Option.some.inj (Option.some.inj hp); subst this
            rcases (fB.joined (show w < B.length by omega) q2').mp ((fA.joined hwl q2').mpr (.inr hq)) with y | y
            . exact y
            . rw [z] at y
              have : v = q2' := Option.some.inj (Option.some.inj y); subst this
              omega
          obtain ⟨j, hj, _⟩ := T.dep _ w (Nat.le_refl _) hwl; have hun := hj.upN T
          have hjp : 0 < j := by
            cases hun with
            | zero => exact absurd rfl hwu
            | succ => omega
          have := (UpN.turn T TB fA fB (by omega) hdB h0 hun).1
          have := toE hu eu this
          omega
        . -- B[v] = w
          have := toE hv ev (.up z hdB); exact this
      -- then w would be nearer
      obtain ⟨x0, hx0, hmx⟩ : ∃ x d, x < n /\ Dep C x d /\ ∀ x' d', x' < n -> Dep C x' d' -> d' <= d := by
        have aux : ∀ (m : Nat), m <= n -> 0 < m -> ∃ x d, x < n /\ Dep C x d /\ ∀ x' d', x' < m -> Dep C x' d' -> d' <= d := by
          intro m
          induction m with
          | zero => intro _ h; omega
          | succ m ih =>
            intro hm _; obtain ⟨dm, hdm, _⟩ := TC.dep _ m (Nat.le_refl _) (by omega)
            by_cases h0 : 0 < m
            . obtain ⟨x, d, hx, hd, hall⟩ := ih (by omega) h0
              by_cases hle : dm <= d
              . refine ⟨x, d, hx, hd, fun x' d' hx' hd' => ?_⟩
                by_cases e' : x' = m
                . subst e'
                  rw [hd'.det hdm]; exact hle
                . exact hall x' d' (by omega) hd'
              . refine ⟨m, dm, by omega, hdm, fun x' d' hx' hd' => ?_⟩
                by_cases e' : x' = m
                . subst e'
                  rw [hd'.det hdm]; exact Nat.le_refl _
                . have := hall x' d' (by omega) hd'; omega
            . have : m = 0 := by omega
              subst this
              exact ⟨0, dm, by omega, hdm, fun x' d' hx' hd' => by
                have : x' = 0 := by omega
                subst this; rw [hd'.det hdm]; exact Nat.le_refl _⟩
        exact aux n (Nat.le_refl _) (by omega)
      obtain ⟨hx, hd, hall⟩ := hmx
      have ew : Ecc n ls w hx0 := by
        refine ⟨fun ab k d R hk h => ?_, fun ab R => ?_⟩
        . rw [RC.uniq R] at h
          exact hall k d hk h
        . rw [RC.uniq R]
          exact ⟨x0, hx, hd⟩
      have := hmin w hx0 (by omega) ew
      have := less x0 hx0 hx hd
      omega
end KM
namespace KM
noncomputable def At (n : Nat) (ls : Ln) (v : Nat) : Ab := Classical.epsilon fun ab => RootedAt n ls v ab
theorem at_spec {n : Nat} {ls : Ln} (F : IsFree n ls) {v : Nat} (hv : v < n) : RootedAt n ls v (At n ls v) := Classical.epsilon_spec (rooted_ex F hv)
theorem at_eq {n : Nat} {ls : Ln} {v : Nat} {ab : Ab} (F : IsFree n ls) (hv : v < n) (h : RootedAt n ls v ab) : At n ls v = ab := h.uniq (at_spec F hv)
noncomputable def br (n : Nat) (ls : Ln) (b k : Nat) : Tx := fm (At n ls b) k
noncomputable def rf (n : Nat) (ls : Ln) (v : Nat) : Tx := fm (At n ls v) v
section
variable {n : Nat} {ls : Ln}
theorem IsFree.lt (F : IsFree n ls) {p : Nat × Nat} (h : p ∈ ls) : p.1 < n /\ p.2 < n := by
  obtain ⟨ab, r, rk, T, rfl, f⟩ := F; exact f.lt T h
theorem IsFree.near_lt (F : IsFree n ls) {k c : Nat} (h : c ∈ near ls k) : c < n /\ k < n := ⟨KM.near_lt (fun p hp => F.lt hp) h, KM.near_lt (fun p hp => F.lt hp) (near_symm h)⟩
theorem RootedAt.kid {v : Nat} {ab : Ab} (R : RootedAt n ls v ab) {c : Nat} (h : c ∈ near ls v) (hv : v < n) : ab[c]? = some (some v) := by
  obtain ⟨l, ⟨rk, T⟩, f⟩ := R
  rcases (f.joined (by omega) c).mp h with z | z
  . exact z
  . rw [T.root] at z; cases z
end
end KM
namespace KM
end KM
namespace KD
open PySem L2 KM PyProof.Rows
theorem rtd_of {A : AI} {ab : Ab} {r : Nat} {rk : Nat -> Nat} (e : A = ab.map toI) (T : Tree ab r rk) : Rtd A := ⟨ab, r, rk, e, T⟩
theorem mkS_inj {s t : Tx} (h : mkS s = mkS t) : s = t := by
  have := congrArg (fun z => z.cps.toList) h
  rwa [mkS_list, mkS_list] at this
end KD
namespace KD
open PySem L2 KM PyProof.Rows
end KD
namespace KD
open PySem L2 KM PyProof.Rows
theorem kitList (K : PySem.W.Frag) : PySem.W.kitOne K (.type "list") (.type "list") = some true := rfl
theorem kitTup (K : PySem.W.Frag) : PySem.W.kitOne K (.type "tuple") (.type "tuple") = some true := rfl
theorem kitStr (K : PySem.W.Frag) : PySem.W.kitOne K (.type "str") (.type "str") = some true := rfl
theorem eqL_self {xs : List V} (h : xs.all flatV = true) : eqL xs xs = true := by
  unfold eqL
  rw [beq_self_eq_true, Bool.true_and, List.all_eq_true]; intro j hj; have hj := List.mem_range.mp hj; refine eqV_self ?_; have : xs.getD j .non = xs[j] := by simp [hj]
  rw [this]; exact List.all_eq_true.mp h _ (List.getElem_mem hj)
end KD
namespace KD
open PySem L2 KM PyProof.Rows
end KD
namespace L2
open PySem PySem.Spec PyProof.Rows
theorem Room.units1 {k : Nat} {A : Around} (r : Room k A) : A.units + 1 < cLine := by have := r.un; omega
end L2
namespace KD
open PySem L2 KM PyProof.Rows
theorem pair_at {α : Type} {R : α -> α -> Prop} : ∀ {l : List α} {i j : Nat} {a b : α}, l.Pairwise R -> l[i]? = some a -> l[j]? = some b -> i < j -> R a b
  | [], i, j, a, b, _, h, _, _ => by cases h
  | x :: l, 0, j + 1, a, b, h, ha, hb, _ => by
    cases ha
    exact (List.pairwise_cons.mp h).1 b (List.mem_of_getElem? hb)
  | x :: l, i + 1, j + 1, a, b, h, ha, hb, hl => pair_at (List.pairwise_cons.mp h).2 ha hb (by omega)
theorem _root_.List.Nodup.idx {α : Type} {l : List α} (h : l.Nodup) {i j : Nat} {a : α} (hi : l[i]? = some a) (hj : l[j]? = some a) : i = j := by
  rcases Nat.lt_trichotomy i j with q | q | q
  . exact absurd rfl (pair_at h hi hj q)
  . exact q
  . exact absurd rfl (pair_at h hj hi q)
end KD
namespace KM
end KM
namespace KD
open PySem L2 KM PyProof.Rows
end KD
namespace KM
end KM
namespace KD
open PySem L2 KM PyProof.Rows
end KD
namespace KD
open PySem L2 KM PyProof.Rows
abbrev LI := List (Int × Int)
def vP (p : Int × Int) : List V := [.int p.1, .int p.2]
def toL (ls : Ln) : LI := ls.map fun p => ((p.1 : Int), (p.2 : Int))
def ofL (li : LI) : Ln := li.map fun p => (p.1.toNat, p.2.toNat)
theorem ofL_toL (ls : Ln) : ofL (toL ls) = ls := by
  unfold ofL toL
  rw [List.map_map]; have : ((fun p : Int × Int => (p.1.toNat, p.2.toNat)) ∘ fun p : Nat × Nat => ((p.1 : Int), (p.2 : Int))) = id := by funext p; rfl
  rw [this, List.map_id]
theorem toL_len (ls : Ln) : (toL ls).length = ls.length := List.length_map _
abbrev LinesAt (H : Hp) (L : Addr) (ps : List Addr) (li : LI) : Prop := TupsAt H L ps (li.map vP)
theorem flat_vP (p : Int × Int) : (vP p).all flatV = true := rfl
theorem LinesAt.at {H : Hp} {L : Addr} {ps : List Addr} {li : LI} (G : LinesAt H L ps li) {i : Nat} (h : i < li.length) : ∃ c, ps[i]? = some c /\ H c = some (.tup (vP li[i])) := by
  have hl : i < ps.length := by rw [G.len, List.length_map]; exact h
  refine ⟨ps[i], List.getElem?_eq_getElem hl, G.each i _ _ (List.getElem?_eq_getElem hl) ?_⟩; rw [List.getElem?_map, List.getElem?_eq_getElem h]
  rfl
structure TreeAt (H : Hp) (t L : Addr) (ps : List Addr) (c : Int) (li : LI) : Prop where
  tup : H t = some (.tup [.int c, .ref L])
  ls : LinesAt H L ps li
theorem TreeAt.up {H H' : Hp} {t L : Addr} {ps : List Addr} {c : Int} {li : LI} (G : TreeAt H t L ps c li) (s : Same H H') : TreeAt H' t L ps c li := ⟨s _ _ G.tup, G.ls.up s⟩
structure ValidL (c : Int) (li : LI) : Prop where
  len : c = ((li.length : Nat) : Int) + 1
  lt : ∀ p ∈ li, (0 <= p.1 /\ p.1 < c) /\ 0 <= p.2 /\ p.2 < c
theorem ValidL.ofL {c : Int} {li : LI} (h : ValidL c li) : ∀ p ∈ ofL li, p.1 < li.length + 1 /\ p.2 < li.length + 1 := fun p hp => by
  obtain ⟨q, hq, rfl⟩ := List.mem_map.mp hp; have := h.lt q hq; have := h.len
  show q.1.toNat < _ /\ q.2.toNat < _
  omega
def FreeL (c : Int) (li : LI) : Prop := ValidL c li /\ IsFree (li.length + 1) (ofL li)
theorem freeL_of {n : Nat} {ls : Ln} (F : IsFree n ls) : FreeL (n : Int) (toL ls) /\ (toL ls).length + 1 = n := by
  refine hld fun g_ k_ => ?_; obtain ⟨ab, r, rk, T, hn, f⟩ := id F; refine k_ ?_; have hl := f.len T; have e : (toL ls).length + 1 = n := by rw [toL_len]; omega
  refine ⟨⟨⟨by omega, fun p hp => ?_⟩, by rw [e, ofL_toL]; exact F⟩, e⟩
  obtain ⟨q, hq, rfl⟩ := List.mem_map.mp hp; have := F.lt hq
  show (0 <= (q.1 : Int) /\ (q.1 : Int) < n) /\ 0 <= (q.2 : Int) /\ (q.2 : Int) < n
  omega
structure LsAt (H0 H : Hp) (b : Addr) (bs : List Addr) (f : Nat -> List Nat) : Prop where
  same : Same H0 H
  top : H b = some (.lst (bs.map V.ref))
  nd : bs.Nodup
  new : ∀ c ∈ bs, H0 c = none
  bn : H0 b = none
  each : ∀ (k : Nat) (c : Addr), bs[k]? = some c -> H c = some (.lst ((f k).map vN))
theorem LsAt.ne {H0 H : Hp} {b : Addr} {bs : List Addr} {f : Nat -> List Nat} (G : LsAt H0 H b bs f) {k : Nat} {c : Addr} (h : bs[k]? = some c) : b ≠ c := fun z => by
  have e := G.each k c h; rw [<- z, G.top] at e; have e := HO.lst.inj (Option.some.inj e)
  cases bs with
  | nil => cases h
  | cons x xs =>
    cases q : f k with
    | nil => rw [q] at e; cases e
    | cons y ys => rw [q] at e; cases (List.cons.inj e).1
theorem LsAt.push {H0 H : Hp} {b : Addr} {bs : List Addr} {f : Nat -> List Nat} (G : LsAt H0 H b bs f) {k x : Nat} {c : Addr} (h : bs[k]? = some c) : LsAt H0 (upd H c (.lst ((f k).map vN ++ [vN x]))) b bs (fun j => if j = k then f j ++ [x] else f j) := by
  refine ⟨same_upd G.same (G.new c (List.mem_of_getElem? h)) _, by rw [upd_ne (G.ne h)]; exact G.top, G.nd, G.new, G.bn, fun j d hd => ?_⟩
  by_cases e : j = k
  . subst e
    rw [h] at hd
    cases hd
    rw [upd_same, if_pos rfl, List.map_append]
    rfl
  . rw [if_neg e, upd_ne (fun z => e (G.nd.idx (by rw [hd, z]) h))]
    exact G.each j d hd
theorem near_snoc (ls : Ln) (p : Nat × Nat) (k : Nat) : near (ls ++ [p]) k = near ls k ++ nb k p := by
  unfold near
  rw [List.flatMap_append]
  simp
theorem near_two (ls : Ln) (a b k : Nat) : near (ls ++ [(a, b)]) k = if k = b then (if k = a then near ls k ++ [b] else near ls k) ++ [a] else (if k = a then near ls k ++ [b] else near ls k) := by
  rw [near_snoc]
  unfold nb
  by_cases h1 : k = a
  . by_cases h2 : k = b
    . rw [if_pos h2, if_pos h1, if_pos h1.symm, if_pos h2.symm, List.append_assoc]
    . rw [if_neg h2, if_pos h1, if_pos h1.symm, if_neg (fun z => h2 z.symm), List.append_nil]
  . by_cases h2 : k = b
    . rw [if_pos h2, if_neg h1, if_neg (fun z => h1 z.symm), if_pos h2.symm]
      rfl
    . rw [if_neg h2, if_neg h1, if_neg (fun z => h1 z.symm), if_neg (fun z => h2 z.symm), List.append_nil, List.append_nil]
structure BesideAt (H : Hp) (b : Addr) (bs : List Addr) (n : Nat) (ls : Ln) : Prop where
  top : H b = some (.lst (bs.map V.ref))
  len : bs.length = n
  each : ∀ (k : Nat) (c : Addr), bs[k]? = some c -> H c = some (.lst ((near ls k).map vN))
theorem BesideAt.up {H H' : Hp} {b : Addr} {bs : List Addr} {n : Nat} {ls : Ln} (G : BesideAt H b bs n ls) (s : Same H H') : BesideAt H' b bs n ls := ⟨s _ _ G.top, G.len, fun k c h => s _ _ (G.each k c h)⟩
inductive spBeside (C : Addr) (vs : (List V)) (H : Hp) (Q : VK) (E : XK) : Prop
  | mk (t L : Addr) (ps : List Addr) (c : Int) (li : LI) (z1_ : vs = [.ref t]) (z2_ : TreeAt H t L ps c li) (z3_ : li.length <= 60) (z4_ : (ValidL c li -> ∀ (b : Addr) (bs : List Addr) (H' : Hp), Same H H' -> BesideAt H' b bs (li.length + 1) (ofL li) -> Q (.ref b) H')) (z5_ : (¬ ValidL c li -> ∀ H', Same H H' -> E (.ref C) none H')) : spBeside C vs H Q E
def kvW (ord : List Nat) (pa : Nat -> Option Nat) : List (Key × V) := ord.map fun k : Nat => (.inl (k : Int), vO (pa k))
inductive spWalked (C : Addr) (vs : (List V)) (H : Hp) (Q : VK) (E : XK) : Prop
  | mk (b : Addr) (bs : List Addr) (n v : Nat) (ls : Ln) (z1_ : vs = [.ref b, vN v]) (z2_ : BesideAt H b bs n ls) (z3_ : v < n) (z4_ : n <= 100) (z5_ : ls.length <= 100) (z6_ : (∀ p ∈ ls, p.1 < n /\ p.2 < n)) (z7_ : (∀ (d : Addr) (ord : List Nat) (pa : Nat -> Option Nat) (H' : Hp), Same H H' -> H d = none -> H' d = some (.dK (kvW ord pa)) -> GB ls n v ord pa ord.length -> ord.length = n -> Q (.ref d) H')) (z8_ : (∀ (ord : List Nat) (pa : Nat -> Option Nat) (H' : Hp), Same H H' -> GB ls n v ord pa ord.length -> ord.length ≠ n -> E (.ref C) none H')) : spWalked C vs H Q E
inductive spHung (C : Addr) (vs : (List V)) (H : Hp) (Q : VK) (E : XK) : Prop
  | mk (b : Addr) (bs : List Addr) (n v : Nat) (ls : Ln) (z1_ : vs = [.ref b, vN v]) (z2_ : BesideAt H b bs n ls) (z3_ : v < n) (z4_ : n <= 100) (z5_ : ls.length + 1 = n) (z6_ : (∀ p ∈ ls, p.1 < n /\ p.2 < n)) (z7_ : (IsFree n ls -> ∀ (p : Addr) (H' : Hp), Same H H' -> H p = none -> H' p = some (.lst ((At n ls v).map vO)) -> Q (.ref p) H')) (z8_ : (¬ IsFree n ls -> ∀ H', Same H H' -> E (.ref C) none H')) : spHung C vs H Q E
inductive spRootedAt (C : Addr) (vs : (List V)) (H : Hp) (Q : VK) (E : XK) : Prop
  | mk (t L : Addr) (ps : List Addr) (c : Int) (li : LI) (v : Nat) (z1_ : vs = [.ref t, vN v]) (z2_ : TreeAt H t L ps c li) (z3_ : li.length <= 60) (z4_ : v < li.length + 1) (z5_ : (FreeL c li -> ∀ (p : Addr) (H' : Hp), Same H H' -> H p = none -> H' p = some (.lst ((At (li.length + 1) (ofL li) v).map vO)) -> Q (.ref p) H')) (z6_ : (¬ FreeL c li -> ∀ H', Same H H' -> E (.ref C) none H')) : spRootedAt C vs H Q E
theorem _root_.KM.GB.free_iff {ls : Ln} {n v : Nat} {ord : List Nat} {pa : Nat -> Option Nat} (B : GB ls n v ord pa ord.length) (hn : ls.length + 1 = n) (hv : v < n) : IsFree n ls ↔ ord.length = n := by
  constructor
  . rintro p_
    refine hld fun g_ k_ => ?_; obtain ⟨ab, r, rk, T, rfl, f⟩ := p_; refine k_ ?_; exact B.whole T f
  . intro h
    exact isFree_of (B.rooted h hn)
theorem _root_.KM.GB.hung_at {ls : Ln} {n v : Nat} {ord : List Nat} {pa : Nat -> Option Nat} (B : GB ls n v ord pa ord.length) (hn : ls.length + 1 = n) (hv : v < n) (hw : ord.length = n) : hung n pa = At n ls v := (at_eq (isFree_of (B.rooted hw hn)) hv (B.rooted hw hn)).symm
theorem kvW_none {ord : List Nat} {pa : Nat -> Option Nat} {c : Nat} : valV (kvW ord pa) (.inl (c : Int)) = none ↔ c ∉ ord := by
  induction ord with
  | nil => exact ⟨fun _ h => (nomatch h), fun _ => rfl⟩
  | cons k ord ih =>
    have e : kvW (k :: ord) pa = (.inl (k : Int), vO (pa k)) :: kvW ord pa := rfl; rw [e]
    by_cases h : k = c
    . subst h
      rw [valV_pos rfl]; exact ⟨fun z => (nomatch z), fun z => absurd List.mem_cons_self z⟩
    . rw [valV_neg (fun z => h (by have := Sum.inl.inj z; omega)), ih, List.mem_cons]
      exact ⟨fun z y => y.elim (fun w => h w.symm) z, fun z y => z (.inr y)⟩
theorem kvW_some {ord : List Nat} {pa : Nat -> Option Nat} {c : Nat} (h : c ∈ ord) : valV (kvW ord pa) (.inl (c : Int)) = some (vO (pa c)) := by
  induction ord with
  | nil => cases h
  | cons k ord ih =>
    have e : kvW (k :: ord) pa = (.inl (k : Int), vO (pa k)) :: kvW ord pa := rfl; rw [e]
    by_cases hk : k = c
    . subst hk
      rw [valV_pos rfl]
    . rw [valV_neg (fun z => hk (by have := Sum.inl.inj z; omega))]
      exact ih ((List.mem_cons.mp h).resolve_left fun z => hk z.symm)
theorem kvW_meet {ord : List Nat} {pa : Nat -> Option Nat} {c k : Nat} (h : c ∉ ord) : putK (kvW ord pa) (.inl (c : Int)) (vN k) = kvW (ord ++ [c]) (fun j => if j = c then some k else pa j) := by
  rw [putK_new _ (kvW_none.mpr h)]
  unfold kvW
  rw [List.map_append]
  congr 1
  . refine List.map_congr_left fun j hj => ?_
    show (_, vO (pa j)) = (_, vO (if j = c then some k else pa j))
    rw [if_neg (fun z : j = c => h (by rw [<- z]; exact hj))]
  . show [(_, vN k)] = [(_, vO (if c = c then some k else pa c))]
    rw [if_pos rfl]
    rfl
theorem near_len (ls : Ln) (k : Nat) : (near ls k).length <= 2 * ls.length := by
  unfold near
  induction ls with
  | nil => exact Nat.zero_le _
  | cons p ls ih =>
    rw [List.flatMap_cons, List.length_append, List.length_cons]
    have : (nb k p).length <= 2 := by
      unfold nb
      rw [List.length_append]
      split <;> split <;> simp
    omega
end KD
namespace KM
end KM
namespace L2
open PySem PySem.Spec PyProof.Rows
end L2
namespace KD
open PySem L2 KM PyProof.Rows
def edsTo (ab : Ab) (i : Nat) : Ln := (List.range i).filterMap (ed1 ab)
theorem edsTo_step {ab : Ab} {i p : Nat} (h : ab[i]? = some (some p)) : edsTo ab (i + 1) = edsTo ab i ++ [(i, p)] := by
  unfold edsTo
  rw [List.range_succ, List.filterMap_append]; have : ed1 ab i = some (i, p) := by unfold ed1; rw [h]; rfl
  simp [this]
theorem edsTo_one {ab : Ab} (h : ab[0]? = some none) : edsTo ab 1 = [] := by
  unfold edsTo
  have : ed1 ab 0 = none := by unfold ed1; rw [h]; rfl
  simp [List.range_succ, this]
theorem lines_ins {H : Hp} {L c : Addr} {ps : List Addr} {ls : Ln} (G : LinesAt H L ps (toL ls)) (p : Nat × Nat) (hc : H c = some (.tup (vP ((p.1 : Int), (p.2 : Int))))) (j : Nat) (hj : j <= ls.length) :
    LinesAt (upd H L (.lst ((ps.map V.ref).take j ++ V.ref c :: (ps.map V.ref).drop j))) L (ps.take j ++ c :: ps.drop j) (toL (ls.take j ++ p :: ls.drop j)) := by
  have hpl : ps.length = ls.length := by rw [G.len, List.length_map, toL_len]
  have ne : ∀ d zs, H d = some (.tup zs) -> d ≠ L := fun d zs h z => by
    have := G.top; rw [<- z, h] at this
    cases this
  have hts : (toL (ls.take j ++ p :: ls.drop j)).map vP = ((toL ls).map vP).take j ++ vP ((p.1 : Int), (p.2 : Int)) :: ((toL ls).map vP).drop j := by
    unfold toL
    rw [List.map_append, List.map_cons, List.map_append, List.map_cons, List.map_take, List.map_drop, List.map_take, List.map_drop]
  have hlt : (ps.take j).length = j := by rw [List.length_take]; omega
  have hltt : (((toL ls).map vP).take j).length = j := by rw [List.length_take, List.length_map, toL_len]; omega
  refine ⟨?_, ?_, fun i d ys hd hy => ?_, fun ys hy => ?_⟩
  . rw [upd_same, List.map_append, List.map_cons, List.map_take, List.map_drop]
  . rw [hts, List.length_append, List.length_append, hlt, hltt, List.length_cons, List.length_cons, List.length_drop, List.length_drop, List.length_map, toL_len, hpl]
  . rw [hts] at hy
    by_cases h1 : i < j
    . rw [List.getElem?_append_left (by omega), List.getElem?_take_of_lt h1] at hd
      rw [List.getElem?_append_left (by omega), List.getElem?_take_of_lt h1] at hy
      have e := G.each i d ys hd hy; rw [upd_ne (ne d ys e)]; exact e
    . rw [List.getElem?_append_right (by omega), hlt] at hd
      rw [List.getElem?_append_right (by omega), hltt] at hy
      cases q : i - j with
      | zero =>
        rw [q] at hd hy
        cases hd
        cases hy
        rw [upd_ne (ne _ _ hc)]; exact hc
      | succ m =>
        rw [q, List.getElem?_cons_succ, List.getElem?_drop] at hd hy; have e := G.each (j + m) d ys hd hy; rw [upd_ne (ne d ys e)]; exact e
  . obtain ⟨p', _, rfl⟩ := List.mem_map.mp hy
    rfl
theorem perm_ins2 {α : Type} (l : List α) (x : α) (j : Nat) : (l.take j ++ x :: l.drop j).Perm (l ++ [x]) := by
  refine (List.perm_middle.trans ?_).trans (List.perm_append_singleton _ _).symm; rw [List.take_append_drop]
theorem lines_copy {H : Hp} {L h : Addr} {ps : List Addr} {li : LI} (G : LinesAt H L ps li) (hh : H h = none) : LinesAt (upd H h (.lst (ps.map V.ref))) h ps li :=
  ⟨upd_same, G.len, fun j c ys h1 h2 => (same_new hh _) _ _ (G.each j c ys h1 h2), G.flat⟩
end KD
namespace KM
section
variable {ab : Ab} {r : Nat} {rk : Nat -> Nat} {ls : Ln}
theorem rest_kids (T : Tree ab r rk) (f : FreeOf ab ls) {k : Nat} (hk : k < ab.length) (p : Nat -> Bool) (hp : ∀ c, p c = true ↔ ab[k]? ≠ some (some c)) : ((near ls k).filter p).Perm (kids ab k) := by
  refine ((f.near hk).filter p).trans ?_; rw [List.filter_append]
  have e1 : (kids ab k).filter p = kids ab k := List.filter_eq_self.mpr fun c hc => (hp c).mpr fun z => by
    have h1 := (T.up c k (mem_kids.mp hc)).2; have h2 := (T.up k c z).2
    omega
  have e2 : (par ab k).filter p = [] := List.filter_eq_nil_iff.mpr fun c hc z => (hp c).mp z (mem_par.mp hc); rw [e1, e2, List.append_nil]
end
end KM
namespace L2
open PySem PySem.Spec PyProof.Rows
theorem while_m {c : TT} {tb : TS} {D : Ends} {σ : St} {H : Hp} (Pv : Nat -> St -> Hp -> Prop) (m0 : Nat) (h0 : Pv m0 σ H)
    (hs : ∀ m σ H, Pv m σ H -> c σ H fun b H1 => if b = true then tb { D with nx := fun σ' H' => ∃ m', m' < m /\ Pv m' σ' H', ct := fun σ' H' => ∃ m', m' < m /\ Pv m' σ' H', bk := D.nx } σ H1 else D.nx σ H1)
    (mono : ∀ σ H Q Q', (∀ b H1, Q b H1 -> Q' b H1) -> c σ H Q -> c σ H Q') : tWhile c tb D σ H := by
  refine ⟨Pv, ⟨m0, h0⟩, ?_⟩; intro m σ H p; refine mono σ H _ _ (fun b H1 q => ?_) (hs m σ H p)
  cases b with
  | true => exact ⟨_, fun σ' H' h => h, q⟩
  | false => exact q
section
variable {X : Cx}
inductive rNeNil (K : PySem.W.Frag) (x : V) (y : V) (H : Hp) (Q : VK) : Prop
  | mk (a : _) (b : _) (xs : _) (z1_ : x = .ref a) (z2_ : y = .ref b) (z3_ : SqL K H a xs) (z4_ : SqL K H b []) (z5_ : Q (.bl (!xs.isEmpty)) H) : rNeNil K x y H Q
theorem op_neNil (hu : X.A.units < cLine) : OpR X (compareOp .NotEq) (rNeNil X.K) := by
  intro pins s σ H x y v u Q I rx ry h; obtain ⟨a, b, xs, rfl, rfl, ha, hb, q⟩ := h
  cases rx
  cases ry
  refine hld fun g_ k_ => ?_; obtain ⟨its, r, pl, _⟩ := I.list ha; refine k_ ?_; refine hld fun g_ k_ => ?_; obtain ⟨its2, r2, pl2, _⟩ := I.list hb; refine k_ ?_; have l1 := r.length; have l2 := r2.length; rw [List.length_nil] at l2
  by_cases hs : its.toArray.size = its2.toArray.size
  . refine SeqAt.RcNeAt.lists (e := fun _ => true) pl.isList pl2.isList hs hu (fun j h1 h2 => ?_) _ _ _ _ ⟨.bl (!xs.isEmpty), H, I, ?_, q⟩
    . rw [List.size_toArray] at h2
      omega
    . rw [List.size_toArray, List.size_toArray] at hs
      show Value.bool _ = Value.bool _
      have hx : xs = [] := List.eq_nil_of_length_eq_zero (by omega)
      rw [List.size_toArray, show its.length = 0 by omega, hx]
      rfl
  . refine SeqAt.RcNeAt.lists_lengths pl.isList pl2.isList (by simpa using hs) hu _ _ _ _ ⟨.bl (!xs.isEmpty), H, I, ?_, q⟩
    rw [List.size_toArray, List.size_toArray] at hs
    show Value.bool _ = Value.bool _
    cases xs with
    | nil => rw [List.length_nil] at l1; omega
    | cons x xs => rfl
end
end L2
namespace KD
open PySem L2 KM PyProof.Rows
inductive spNearOf (vs : (List V)) (H : Hp) (Q : VK) (e_ : XK) : Prop
  | mk (L : Addr) (ps : List Addr) (n : Nat) (ls : Ln) (z1_ : vs = [vN n, .ref L]) (z2_ : LinesAt H L ps (toL ls)) (z3_ : (∀ p ∈ ls, p.1 < n /\ p.2 < n)) (z4_ : n <= 100) (z5_ : ls.length <= 100) (z6_ : ∀ (b : Addr) (bs : List Addr) (H' : Hp), Same H H' -> BesideAt H' b bs n ls -> Q (.ref b) H') : spNearOf vs H Q e_
inductive spBranch (k : Nat) (vs : (List V)) (H : Hp) (Q : VK) (e_ : XK) : Prop
  | mk (b : Addr) (bs : List Addr) (ls : Ln) (ab : Ab) (r v : Nat) (rk : Nat -> Nat) (bk : Int) (z1_ : vs = [.ref b, vN v, .int bk]) (z2_ : BesideAt H b bs ab.length ls) (z3_ : Tree ab r rk) (z4_ : FreeOf ab ls) (z5_ : v < ab.length) (z6_ : ab.length < 64) (z7_ : ab.length <= rk v + k) (z8_ : (∀ c : Nat, (c : Int) ≠ bk ↔ ab[v]? ≠ some (some c))) (z9_ : ∀ H', Same H H' -> Q (vT (fm ab v)) H') : spBranch k vs H Q e_
end KD
namespace L2
open PySem PySem.Spec PyProof.Rows
theorem kV_of {P : Program} {w : World} {k : Key} {u : Value} (h : (mixKind P w).is k u = true) : RelV (kV k) u := by
  rcases keyIs_shape (show keyIs k u = true from h) with ⟨i, t, rfl, rfl⟩ | ⟨x, t, rfl, rfl⟩
  . exact ⟨t, rfl⟩
  . exact ⟨t, rfl⟩
theorem KV.at {κ : Type} : ∀ {kvs : List (κ × V)} {vs : List (κ × Value)}, KV kvs vs -> ∀ {i : Nat} {kv : κ × V}, kvs[i]? = some kv -> ∃ v, vs[i]? = some (kv.1, v) /\ RelV kv.2 v
  | _, _, .nil, _, _, h => (nomatch h)
  | _, _, .cons (a := a) (b := b) r t, 0, kv, h => by
    have e : a = kv := Option.some.inj h; subst e; refine ⟨b.2, ?_, r.2⟩
    show some b = _
    rw [r.1]
  | _, _, .cons _ t, i + 1, kv, h => KV.at t (i := i) h
theorem KV.at2 {κ : Type} : ∀ {kvs : List (κ × V)} {vs : List (κ × Value)}, KV kvs vs -> ∀ {i : Nat} {q : κ × Value}, vs[i]? = some q -> ∃ x, kvs[i]? = some (q.1, x) /\ RelV x q.2
  | _, _, .nil, _, _, h => (nomatch h)
  | _, _, .cons (a := a) (b := b) r t, 0, q, h => by
    have e : b = q := Option.some.inj h; subst e; refine ⟨a.2, ?_, r.2⟩
    show some a = _
    rw [<- r.1]
  | _, _, .cons _ t, i + 1, q, h => KV.at2 t (i := i) h
def Itd (d : Addr) (o : Obj) (kvs : List (Key × V)) : It :=
  ⟨fun i H => H d = some (.frz o (.dK kvs)) /\ i < kvs.length, fun i H x H' => H' = H /\ ∃ kv, kvs[i]? = some kv /\ x = kV kv.1, fun i H => H d = some (.frz o (.dK kvs)) /\ kvs.length <= i⟩
theorem frz_at {X : Cx} {pins : List (Addr × Obj)} {σ : St} {H : Hp} {s : Shared} {d : Addr} {o : Obj} {kvs : List (Key × V)} {es : Array DictEntry} {ep : Nat} (I : Inv X pins σ H s) (h : H d = some (.frz o (.dK kvs))) (he : o.data = .dict es ep) :
    ∃ vs, KV kvs vs /\ s.heap.DictAt (mixKind X.prog X.w) d vs ep := by
  refine hld fun g_ k_ => ?_; obtain ⟨ho, hz, hS, vs, rel, ob, es', ep', e1, e2, e3, e4⟩ := (show ObjOk X.prog X.w H s.heap d (.frz o (.dK kvs)) from I.hok d _ h); refine k_ ?_
  rw [ho] at e1
  cases e1
  rw [he] at e3
  cases e3
  exact ⟨vs, rel, o, es, ho, e2, he, e4⟩
theorem turn_dict {P : Program} {w : World} {K : PySem.W.Frag} {tg : Expr} (d it : Addr) (ob : Obj) (kvs : List (Key × V)) {es : Array DictEntry} {ep : Nat} (he : ob.data = .dict es ep) : Turn P w K tg (Itd d ob kvs) [it] it (fun i h => h.IsKeyIter it d i kvs.length ep) where
  mem := by simp
  obj := fun i h st b hb => by
    have e : b = it := by simpa using hb
    subst e; refine hld fun g_ k_ => ?_; obtain ⟨o, e, c, d⟩ := st; refine k_ ?_; exact ⟨o, e, fun v z => by rw [d] at z; cases z⟩
  keep := fun i h h' st k => st.at fun o e => k it (by simp) o e
  item := by
    intro X hP hw hK hc i pins s σ H E I hf st hg; subst hP hw hK; obtain ⟨hd, hi⟩ := hg; obtain ⟨vs, rel, da⟩ := frz_at I hd he; have hl := rel.length; obtain ⟨v, hv, _⟩ := rel.at (List.getElem?_eq_getElem hi); refine hld fun g_ k_ => ?_; obtain ⟨f0, f1, f2, f3, f4, f5⟩ := hf it (by simp); refine k_ ?_
    rw [hl] at st; refine wpAny_pyNext_dict_item st da hv fun key h' hkey st' sb => ?_; have I1 : Inv X pins σ H { s with heap := h' } := I.turned (t' := s.toks) (fun b o hb e => (sb.2 b hb).trans e) f0 f1 f3 f4 f5
    refine hld fun g_ k_ => ?_; obtain ⟨o, e, c, dd⟩ := id st'; refine k_ ?_; exact ⟨key, rfl, go_of (s := { s with heap := h' }) e c dd (by decide) ⟨kV kvs[i].1, H, I1, kV_of hkey, ⟨rfl, kvs[i], List.getElem?_eq_getElem hi, rfl⟩, by rw [hl]; exact st', fun b hb => (hf b hb).1⟩⟩
  done := by
    intro X hP hw hK hc i pins s σ H E I hf st hg; subst hP hw hK; obtain ⟨hd, hi⟩ := hg; obtain ⟨vs, rel, da⟩ := frz_at I hd he; have hl := rel.length; refine hld fun g_ k_ => ?_; obtain ⟨f0, f1, f2, f3, f4, f5⟩ := hf it (by simp); refine k_ ?_
    rw [hl] at st; exact wpAny_pyNext_dict_end (I.ok.hd hc) st da (List.getElem?_eq_none (by omega)) fun h' eb => ⟨rfl, I.turned (t' := s.toks) (fun b o hb e => eb b o hb e) f0 f1 f3 f4 f5⟩
  self := fun _ _ _ _ _ st h => wpAny_pyIter_keyiter st h
section
variable {X : Cx} {tg : Expr}
def iDict (td : TE) : TI := fun σ H R => td σ H fun x H1 => ∃ d kvs, x = .ref d /\ H1 d = some (.dK kvs) /\ ∀ o, R (Itd d o kvs) (upd H1 d (.frz o (.dK kvs)))
theorem pi_dict {l : Expr} {td : TE} (hl : PE X l td) : PI X tg l (iDict td) := by
  intro pins s σ H R I h; refine thn (hl pins s σ H _ I h) fun v s1 ⟨x, H1, I1, r1, q1⟩ => ?_; refine hld fun g_ k_ => ?_; obtain ⟨d, kvs, e, hd, q⟩ := q1; refine k_ ?_; subst e
  cases r1
  refine hld fun g_ k_ => ?_; obtain ⟨hz, hS, vs, rel, ob, es, ep, he, c1, c2, c3⟩ := (show ObjOk X.prog X.w H1 s1.heap d (.dK kvs) from I1.hok d _ hd); refine k_ ?_
  have da : s1.heap.DictAt (mixKind X.prog X.w) d vs ep := ⟨ob, es, he, c1, c2, c3⟩; have I2 : Inv X pins σ (upd H1 d (.frz ob (.dK kvs))) s1 := I1.write (t' := s1.toks) (x := d) (e := d) (by rw [hd]; exact trivial) (.inl rfl) (fun b u _ hu => hu) ⟨_, he⟩ ⟨he, hz, hS, vs, rel, ob, es, ep, he, c1, c2, c3⟩
  refine wpAny_pyIter_dict hS da ?_; refine ⟨s1.heap.objs.size, [s1.heap.objs.size], _, _, upd H1 d (.frz ob (.dK kvs)), rfl, I2.kept (t' := s1.toks) fun b o e => Heap.get?_push_of_some _ e, turn_dict d _ ob kvs c2, ⟨_, Heap.get?_push_size _ rfl, rfl, by rw [rel.length]; rfl⟩, fun b hb => ?_, q ob⟩
  have e : b = s1.heap.objs.size := by simpa using hb
  subst e; exact I2.fpOk (Nat.le_refl _) (I2.hok.fresh (Nat.le_refl _))
theorem for_dict {d : Addr} {o : Obj} {kvs : List (Key × V)} {g : TG} {tb : TS} {D : Ends} {σ : St} {H : Hp} (Pv : Nat -> St -> Hp -> Prop) (h0 : Pv 0 σ H) (hl : ∀ i σ H, i <= kvs.length -> Pv i σ H -> H d = some (.frz o (.dK kvs)))
    (hs : ∀ i kv σ H, kvs[i]? = some kv -> Pv i σ H -> g (kV kv.1) σ H fun σ2 H2 => tb { D with nx := Pv (i + 1), ct := Pv (i + 1), bk := D.nx } σ2 H2) (hd : ∀ σ H, Pv kvs.length σ H -> D.nx σ H) :
    ∃ W : Nat -> Nat -> St -> Hp -> Prop, (∃ m, W 0 m σ H) /\ ∀ i m σ H, W i m σ H ->
      ((Itd d o kvs).stop i H /\ D.nx σ H) \/ ((Itd d o kvs).go i H /\ ∃ N : St -> Hp -> Prop, (∀ σ' H', N σ' H' -> ∃ m', m' < m /\ W (i + 1) m' σ' H') /\ ∀ x H', (Itd d o kvs).yld i H x H' -> g x σ H' fun σ2 H2 => tb { D with nx := N, ct := N, bk := D.nx } σ2 H2) := by
  refine ⟨fun i m σ H => m = kvs.length - i /\ i <= kvs.length /\ Pv i σ H, ⟨kvs.length, by simp, Nat.zero_le _, h0⟩, ?_⟩
  rintro i m σ H ⟨rfl, hi, p⟩
  have q := hl i σ H hi p
  by_cases hlt : i < kvs.length
  . refine .inr ⟨⟨q, hlt⟩, Pv (i + 1), fun σ' H' p' => ⟨kvs.length - (i + 1), by omega, rfl, hlt, p'⟩, fun x H' y => ?_⟩
    refine hld fun g_ k_ => ?_; obtain ⟨e, kv, hkv, rfl⟩ := y; refine k_ ?_; subst e; exact hs i kv σ _ hkv p
  . have e : i = kvs.length := by omega
    subst e; exact .inl ⟨⟨q, Nat.le_refl _⟩, hd σ H p⟩
def valsAt (p d : Addr) : HO := .ext fun h => h.IsValuesView p d
inductive rVals (x : V) (vs : (List V)) (H : Hp) (Q : VK) : Prop
  | mk (d : _) (kvs : _) (z1_ : x = .ref d) (z2_ : vs = []) (z3_ : H d = some (.dK kvs)) (z4_ : ∀ p, H p = none -> Q (.ref p) (upd H p (valsAt p d))) : rVals x vs H Q
theorem mt_values : MtR X "dict.values" rVals := by
  intro pins s σ H x vs v us Q I rx rv h; obtain ⟨d, kvs, rfl, rfl, hd, q⟩ := h
  cases rx
  have hus := rv.zero; subst hus; refine hld fun g_ k_ => ?_; obtain ⟨hz, hS, ws, rel, dd⟩ := dk_of I.hok hd; refine k_ ?_; refine call_meetsIn PySem.F.slot_dict_values dd.typeIs PySem.F.entry_dict_values (PySem.F.args_dict_values_1 _) (meets_dict_values (mixKind X.prog X.w) d hS) ⟨⟨ws, dd⟩, ?_⟩; refine ⟨.ref _, upd H s.heap.objs.size (valsAt s.heap.objs.size d), I.laid (t' := s.toks) (fun _ _ q => Heap.get?_push_of_some _ q) (Nat.le_refl _) ?_, rfl, q _ I.fresh⟩; refine ⟨⟨_, Heap.get?_push_size _ rfl, rfl, rfl⟩, ⟨_, Heap.get?_push_size _ rfl⟩, fun h1 h2 hv k => ?_⟩; refine hld fun g_ k_ => ?_; obtain ⟨o, e, c, f⟩ := hv; refine k_ ?_; exact ⟨o, k o e, c, f⟩
inductive rMaxV (xs : (List V)) (H : Hp) (Q : VK) : Prop
  | mk (p d : Addr) (kvs : List (Key × V)) (ns : List Int) (m : Int) (z1_ : xs = [.ref p]) (z2_ : H p = some (valsAt p d)) (z3_ : H d = some (.dK kvs)) (z4_ : kvs.map (·.2) = ns.map V.int) (z5_ : m ∈ ns) (z6_ : (∀ n ∈ ns, n <= m)) (z7_ : Q (.int m) H) : rMaxV xs H Q
theorem call_maxV (hc : X.calm = true) : CallR X (.builtin "max") rMaxV := by
  intro pins s σ H xs us Q I r h; obtain ⟨p, d, kvs, ns, m, rfl, hp, hd, hns, hm, hle, q⟩ := h; obtain ⟨u, rfl, rx⟩ := vals1 r
  cases rx
  obtain ⟨hv, _, _⟩ := (show ObjOk X.prog X.w H s.heap p (valsAt p d) from I.hok p _ hp)
  refine hld fun g_ k_ => ?_; obtain ⟨hz, hS, vs, rel, dd⟩ := dk_of I.hok hd; refine k_ ?_; obtain ⟨ep, da⟩ := dd.dictAt; have hlen : vs.length = ns.length := by rw [<- rel.length, <- List.length_map (f := fun kv : Key × V => kv.2), hns, List.length_map]
  have hpos : 0 < ns.length := List.length_pos_of_mem hm; have hdl := da.lt_size
  have hval : ∀ (i : Nat) (v : Value), (∃ k, vs[i]? = some (k, v)) -> ∃ t, v = .int (ns.getD i 0) t := fun i v ⟨k, hk⟩ => by
    obtain ⟨x, hx, rx⟩ := rel.at2 hk; have e : (kvs.map (·.2))[i]? = some x := by rw [List.getElem?_map, hx]; rfl
    rw [hns, List.getElem?_map] at e
    cases hni : ns[i]? with
    | none => rw [hni] at e; cases e
    | some j =>
      rw [hni] at e; have e' : V.int j = x := Option.some.inj e; subst e'; obtain ⟨t, ht⟩ := rx; exact ⟨t, by rw [List.getD_eq_getElem?_getD, hni]; exact ht⟩
  refine call_max_walk (wpAny_pyIter_values (knd := mixKind X.prog X.w) hv da ?_); refine ⟨_, [s.heap.objs.size, d], [s.heap.objs.size], _, _, _, _, rfl, Walks.dictValues (A := X.A.in1) (I.ok.hd hc) s.heap.objs.size d (Nat.ne_of_lt hdl) vs ep, ⟨⟨_, Heap.get?_push_size _ rfl, rfl, rfl⟩, da.push _⟩, fun b hb => ?_, by omega, CmpOf.ints_gt (fun i => ns.getD i 0) hval, fun v h' tk hP hk => ?_⟩
  . show b < (s.heap.push _).objs.size
    rw [Heap.size_push]
    rcases List.mem_cons.mp hb with rfl | hb
    . exact Nat.lt_succ_self _
    . rw [List.mem_singleton.mp hb]
      exact Nat.lt_succ_of_lt hdl
  . have I1 : Inv X pins σ H { s with heap := h', toks := tk } := I.kept fun b o e => hk b o (fun z => absurd (List.mem_singleton.mp z ▸ Heap.lt_size e) (Nat.lt_irrefl _)) (Heap.get?_push_of_some _ e)
    obtain ⟨t, rfl⟩ := hval _ _ hP; refine ⟨.int m, H, I1, ⟨t, ?_⟩, q⟩; have hb := argBest_le (fun i j => decide (ns.getD i 0 > ns.getD j 0)) (vs.length - 1); have hbl : argBest (fun i j => decide (ns.getD i 0 > ns.getD j 0)) (vs.length - 1) < ns.length := by omega
    have e : ns.getD (argBest (fun i j => decide (ns.getD i 0 > ns.getD j 0)) (vs.length - 1)) 0 = m := by
      refine Int.le_antisymm ?_ ?_
      . refine hle _ ?_
        rw [List.getD_eq_getElem?_getD, List.getElem?_eq_getElem hbl]; exact List.getElem_mem _
      . obtain ⟨j, hj⟩ := List.mem_iff_getElem?.mp hm
        obtain ⟨hjl, e⟩ := List.getElem?_eq_some_iff.mp hj; have := argBest_max (fun i => ns.getD i 0) (vs.length - 1) j (by omega)
        rw [List.getD_eq_getElem?_getD, hj] at this; exact this
    rw [e]
end
end L2
namespace KM
section
variable {n : Nat} {ls ls' : Ln}
noncomputable def ecc (n : Nat) (ls : Ln) (v : Nat) : Nat := Classical.epsilon fun e => Ecc n ls v e
theorem ecc_of {ab : Ab} {v e : Nat} (R : RootedAt n ls v ab) (h1 : ∀ k d, k < n -> Dep ab k d -> d <= e) (h2 : ∃ k, k < n /\ Dep ab k e) : Ecc n ls v e where
  most := fun ab' k d R' hk hd => by rw [R.uniq R'] at hd; exact h1 k d hk hd
  there := fun ab' R' => by rw [R.uniq R']; exact h2
theorem ecc_ex (F : IsFree n ls) {v : Nat} (hv : v < n) : ∃ e, Ecc n ls v e := by
  have R := at_spec F hv; obtain ⟨hl, ⟨rk, T⟩, _⟩ := id R
  have hd : ∀ k, k < n -> ∃ d, Dep (At n ls v) k d := fun k hk => by
    obtain ⟨d, h, _⟩ := T.dep (rk k) k (Nat.le_refl _) (by omega)
    exact ⟨d, h⟩
  have go : ∀ m, m <= n -> 0 < m -> ∃ e, (∀ k d, k < m -> Dep (At n ls v) k d -> d <= e) /\ ∃ k, k < m /\ Dep (At n ls v) k e := by
    intro m
    induction m with
    | zero => intro _ h; omega
    | succ m ih =>
      intro hm _; obtain ⟨d, hdm⟩ := hd m (by omega)
      by_cases hz : 0 < m
      . obtain ⟨e, h1, k, hk, h2⟩ := ih (by omega) hz
        by_cases c : d <= e
        . refine ⟨e, fun k' d' hk' h' => ?_, k, by omega, h2⟩
          by_cases q : k' = m
          . subst q
            rw [h'.det hdm]; exact c
          . exact h1 k' d' (by omega) h'
        . refine ⟨d, fun k' d' hk' h' => ?_, m, by omega, hdm⟩
          by_cases q : k' = m
          . subst q
            rw [h'.det hdm]; exact Nat.le_refl _
          . have := h1 k' d' (by omega) h'
            omega
      . refine ⟨d, fun k' d' hk' h' => ?_, m, by omega, hdm⟩
        have q : k' = m := by omega
        subst q; rw [h'.det hdm]; exact Nat.le_refl _
  obtain ⟨e, h1, h2⟩ := go n (Nat.le_refl _) (by omega)
  exact ⟨e, ecc_of R h1 h2⟩
theorem ecc_spec (F : IsFree n ls) {v : Nat} (hv : v < n) : Ecc n ls v (ecc n ls v) := Classical.epsilon_spec (ecc_ex F hv)
theorem ecc_eq (F : IsFree n ls) {v e : Nat} (hv : v < n) (h : Ecc n ls v e) : ecc n ls v = e := Ecc.det F hv (ecc_spec F hv) h
noncomputable def mids (n : Nat) (ls : Ln) : List Nat := (List.range n).filter fun v => (List.range n).all fun w => decide (ecc n ls v <= ecc n ls w)
theorem mem_mids {v : Nat} : v ∈ mids n ls ↔ v < n /\ ∀ w, w < n -> ecc n ls v <= ecc n ls w := by
  unfold mids
  rw [List.mem_filter, List.mem_range, List.all_eq_true]
  constructor
  . rintro ⟨h1, h2⟩
    exact ⟨h1, fun w hw => of_decide_eq_true (h2 w (List.mem_range.mpr hw))⟩
  . rintro ⟨h1, h2⟩
    exact ⟨h1, fun w hw => decide_eq_true (h2 w (List.mem_range.mp hw))⟩
theorem mids_nodup : (mids n ls).Nodup := List.nodup_range.filter _
theorem mids_lt {v : Nat} (h : v ∈ mids n ls) : v < n := (mem_mids.mp h).1
theorem min_ex (f : Nat -> Nat) : ∀ m, 0 < m -> ∃ v, v < m /\ ∀ w, w < m -> f v <= f w
  | 0, h => by omega
  | m + 1, _ => by
    by_cases hz : 0 < m
    . obtain ⟨v, hv, h⟩ := min_ex f m hz
      by_cases c : f v <= f m
      . refine ⟨v, by omega, fun w hw => ?_⟩
        by_cases q : w = m
        . rw [q]; exact c
        . exact h w (by omega)
      . refine ⟨m, by omega, fun w hw => ?_⟩
        by_cases q : w = m
        . rw [q]; exact Nat.le_refl _
        . have := h w (by omega); omega
    . refine ⟨m, by omega, fun w hw => ?_⟩
      rw [show w = m by omega]
      exact Nat.le_refl _
theorem mids_ne (hn : 0 < n) : mids n ls ≠ [] := fun z => by
  obtain ⟨v, hv, h⟩ := min_ex (ecc n ls) n hn; have : v ∈ mids n ls := mem_mids.mpr ⟨hv, h⟩; rw [z] at this
  cases this
theorem mids_joined (F : IsFree n ls) {u v : Nat} (hu : u ∈ mids n ls) (hv : v ∈ mids n ls) (hne : u ≠ v) : v ∈ near ls u := by
  obtain ⟨h1, h2⟩ := mem_mids.mp hu; obtain ⟨h3, h4⟩ := mem_mids.mp hv; have e : ecc n ls v = ecc n ls u := Nat.le_antisymm (h4 u h1) (h2 v h3); have ev := ecc_spec F h3; rw [e] at ev; refine middles_joined F h1 h3 hne (ecc_spec F h1) ev fun w e' hw he => ?_; rw [<- ecc_eq F hw he]; exact h2 w hw
theorem mids_cases (F : IsFree n ls) (hn : 0 < n) : (∃ m, mids n ls = [m]) \/ ∃ a b, mids n ls = [a, b] /\ a ≠ b /\ b ∈ near ls a := by
  have hne := mids_ne (ls := ls) hn; have nd := mids_nodup (n := n) (ls := ls); have hj : ∀ {u v}, u ∈ mids n ls -> v ∈ mids n ls -> u ≠ v -> v ∈ near ls u := fun hu hv h => mids_joined F hu hv h; have hlt : ∀ v ∈ mids n ls, v < n := fun v hv => mids_lt hv; generalize mids n ls = l at hne nd hj hlt
  match l, hne, nd with
  | [m], _, _ => exact .inl ⟨m, rfl⟩
  | [a, b], _, nd =>
    have hab : a ≠ b := fun z => by rw [z] at nd; simp at nd
    exact .inr ⟨a, b, rfl, hab, hj (by simp) (by simp) hab⟩
  | a :: b :: c :: t, _, nd =>
    exfalso
    have hab : a ≠ b := fun z => by rw [z] at nd; simp at nd
    have hac : a ≠ c := fun z => by rw [z] at nd; simp at nd
    have hbc : b ≠ c := fun z => by rw [z] at nd; simp at nd
    have h1 := hj (u := a) (v := b) (by simp) (by simp) hab
    have h2 := hj (u := a) (v := c) (by simp) (by simp) hac
    have h3 := hj (u := b) (v := c) (by simp) (by simp) hbc
    have ha := hlt a (by simp)
    have R := at_spec F ha; have k1 := R.kid h1 ha; have k2 := R.kid h2 ha; obtain ⟨hl, ⟨rk, T⟩, fo⟩ := id R; have hb := hlt b (by simp)
    rcases (fo.joined (show b < (At n ls a).length by omega) c).mp h3 with z | z
    . rw [k2] at z
      exact hab (Option.some.inj (Option.some.inj z))
    . rw [k1] at z
      exact hac (Option.some.inj (Option.some.inj z))
def dash (ts : List Tx) : Tx := match srt ts with
  | [s, t] => s ++ 45 :: t
  | _ => []
noncomputable def ff (n : Nat) (ls : Ln) : Tx := match mids n ls with
  | [a, b] => dash [br n ls b a, br n ls a b]
  | m :: _ => rf n ls m
  | [] => []
theorem ff_one {m : Nat} (h : mids n ls = [m]) : ff n ls = rf n ls m := by unfold ff; rw [h]
theorem ff_two {a b : Nat} (h : mids n ls = [a, b]) : ff n ls = dash [br n ls b a, br n ls a b] := by unfold ff; rw [h]
end
end KM
namespace KM
theorem dep_fn {ab : Ab} {r : Nat} {rk : Nat -> Nat} (T : Tree ab r rk) : ∃ dp : Nat -> Nat, ∀ k, k < ab.length -> Dep ab k (dp k) :=
  ⟨fun k => if h : k < ab.length then Classical.choose (T.dep (rk k) k (Nat.le_refl _) h) else 0, fun k hk => by
    show Dep ab k (dite _ _ _)
    rw [dif_pos hk]; exact (Classical.choose_spec (T.dep (rk k) k (Nat.le_refl _) hk)).1⟩
theorem exists_most : ∀ (l : List Nat), l ≠ [] -> ∃ m, m ∈ l /\ ∀ x ∈ l, x <= m
  | [], h => absurd rfl h
  | [a], _ => ⟨a, List.mem_singleton.mpr rfl, fun x hx => by rw [List.mem_singleton.mp hx]; exact Nat.le_refl _⟩
  | a :: b :: t, _ => by
    obtain ⟨m, hm, hle⟩ := exists_most (b :: t) (by simp)
    by_cases c : a <= m
    . refine ⟨m, List.mem_cons_of_mem _ hm, fun x hx => ?_⟩
      rcases List.mem_cons.mp hx with rfl | hx
      . exact c
      . exact hle x hx
    . refine ⟨a, List.mem_cons_self, fun x hx => ?_⟩
      rcases List.mem_cons.mp hx with rfl | hx
      . exact Nat.le_refl _
      . have := hle x hx; omega
theorem GB.par_at {ls : Ln} {n v pl : Nat} {ord : List Nat} {pa : Nat -> Option Nat} {ab : Ab} (B : GB ls n v ord pa pl) (R : RootedAt n ls v ab) (hv : v < n) : ∀ (j c : Nat), 0 < j -> ord[j]? = some c -> ∃ k, pa c = some k /\ ab[c]? = some (some k) := by
  obtain ⟨hl, ⟨rk, T⟩, fo⟩ := R
  have go : ∀ (b j c : Nat), j <= b -> 0 < j -> ord[j]? = some c -> ∃ k, pa c = some k /\ ab[c]? = some (some k) := by
    intro b
    induction b with
    | zero => intro j c h1 h2; omega
    | succ b ih =>
      intro j c hjb hj hc; obtain ⟨i, k, hi, hk, hp, hn⟩ := B.up j c hj hc; refine ⟨k, hp, ?_⟩; have hkl : k < n := B.lt k (List.mem_of_getElem? hk)
      rcases (fo.joined (show k < ab.length by omega) c).mp hn with z | z
      . exact z
      . exfalso
        by_cases hi0 : i = 0
        . subst hi0
          obtain ⟨t, ht⟩ := B.head; rw [ht] at hk; have : v = k := Option.some.inj hk; subst this; rw [T.root] at z
          cases z
        . obtain ⟨k', hp', hk'⟩ := ih i k (by omega) (by omega) hk
          rw [z] at hk'; have hck : c = k' := Option.some.inj (Option.some.inj hk'); obtain ⟨i', k2, hi', hk2, hp2, _⟩ := B.up i k (by omega) hk
          rw [hp'] at hp2; have : k' = k2 := Option.some.inj hp2; subst this; rw [<- hck] at hk2; have hjl := (List.getElem?_eq_some_iff.mp hc).1; have := (List.getElem?_inj hjl B.nd).mp (hc.trans hk2.symm)
          omega
  exact fun j c hj hc => go j j c (Nat.le_refl _) hj hc
theorem GB.dep_at {ls : Ln} {n v pl : Nat} {ord : List Nat} {pa : Nat -> Option Nat} {ab : Ab} (B : GB ls n v ord pa pl) (R : RootedAt n ls v ab) (hv : v < n) {dp : Nat -> Nat} (hdp : ∀ k, k < n -> Dep ab k (dp k)) {k c : Nat} (hk : ord[pl]? = some k) (hc : c ∈ near ls k) (hn : c ∉ ord) (hcl : c < n) : dp c = dp k + 1 := by
  have B' := B.meet hk hc hn hcl; have hle := (List.getElem?_eq_some_iff.mp hk).1; obtain ⟨k', h1, h2⟩ := B'.par_at R hv ord.length c (by omega) (by rw [List.getElem?_append_right (Nat.le_refl _)]; simp)
  rw [if_pos rfl] at h1; have : k = k' := Option.some.inj h1; subst this; have hkl : k < n := B.lt k (List.mem_of_getElem? hk); exact (hdp c hcl).det (.up h2 (hdp k hkl))
theorem dep_root {ab : Ab} {r : Nat} {rk : Nat -> Nat} (T : Tree ab r rk) {d : Nat} (h : Dep ab r d) : d = 0 := h.det (.root T.root)
noncomputable def eccs (n : Nat) (ls : Ln) : List Nat := (List.range n).map (ecc n ls)
theorem eccs_len (n : Nat) (ls : Ln) : (eccs n ls).length = n := by unfold eccs; rw [List.length_map, List.length_range]
theorem eccs_get {n i : Nat} {ls : Ln} (h : i < n) : (eccs n ls)[i]? = some (ecc n ls i) := by unfold eccs; rw [List.getElem?_map, List.getElem?_range h]; rfl
theorem mem_eccs {n x : Nat} {ls : Ln} : x ∈ eccs n ls ↔ ∃ v, v < n /\ ecc n ls v = x := by
  unfold eccs
  rw [List.mem_map]
  constructor
  . rintro ⟨v, hv, e⟩; exact ⟨v, List.mem_range.mp hv, e⟩
  . rintro ⟨v, hv, e⟩; exact ⟨v, List.mem_range.mpr hv, e⟩
noncomputable def midTo (n : Nat) (ls : Ln) (m i : Nat) : List Nat := (List.range i).filter fun v => decide (ecc n ls v = m)
theorem midTo_hit {n m i : Nat} {ls : Ln} (h : ecc n ls i = m) : midTo n ls m (i + 1) = midTo n ls m i ++ [i] := by
  unfold midTo
  rw [List.range_succ, List.filter_append]
  congr 1
  exact List.filter_cons_of_pos (p := fun v => decide (ecc n ls v = m)) (decide_eq_true h)
theorem midTo_miss {n m i : Nat} {ls : Ln} (h : ecc n ls i ≠ m) : midTo n ls m (i + 1) = midTo n ls m i := by
  unfold midTo
  rw [List.range_succ, List.filter_append]; have e : [i].filter (fun v => decide (ecc n ls v = m)) = [] := List.filter_cons_of_neg (p := fun v => decide (ecc n ls v = m)) (by rw [decide_eq_false h]; exact Bool.false_ne_true)
  rw [e, List.append_nil]
theorem midTo_len (n m i : Nat) (ls : Ln) : (midTo n ls m i).length <= i := by
  unfold midTo
  refine Nat.le_trans (List.length_filter_le _ _) ?_; rw [List.length_range]; exact Nat.le_refl _
theorem midTo_all {n m : Nat} {ls : Ln} (h1 : m ∈ eccs n ls) (h2 : ∀ x ∈ eccs n ls, m <= x) : midTo n ls m n = mids n ls := by
  unfold midTo mids
  refine List.filter_congr fun v hv => ?_; have hv := List.mem_range.mp hv; rw [Bool.eq_iff_iff, decide_eq_true_iff, List.all_eq_true]; obtain ⟨u, hu, e⟩ := mem_eccs.mp h1
  constructor
  . intro h w hw
    refine decide_eq_true ?_; rw [h]; exact h2 _ (mem_eccs.mpr ⟨w, List.mem_range.mp hw, rfl⟩)
  . intro h
    have h3 := of_decide_eq_true (h u (List.mem_range.mpr hu)); have h4 := h2 _ (mem_eccs.mpr ⟨v, hv, rfl⟩)
    omega
theorem least_ecc {n : Nat} (ls : Ln) (hn : 0 < n) : ∃ m, m ∈ eccs n ls /\ ∀ x ∈ eccs n ls, m <= x := by
  obtain ⟨v, hv, h⟩ := min_ex (ecc n ls) n hn; refine ⟨_, mem_eccs.mpr ⟨v, hv, rfl⟩, fun x hx => ?_⟩; obtain ⟨w, hw, rfl⟩ := mem_eccs.mp hx; exact h w hw
end KM
namespace KM
theorem br_len {n : Nat} {ls : Ln} (F : IsFree n ls) {a b : Nat} (h : b ∈ near ls a) : (br n ls a b).length <= 2 * n * n := by
  obtain ⟨hb, ha⟩ := F.near_lt h; have R := at_spec F ha; have hk := R.kid h ha; obtain ⟨hl, _, _⟩ := id R; have h1 := fm_kids_len (At n ls a) a; rw [hl] at h1; refine Nat.le_trans (mem_le_sum (List.mem_map.mpr ⟨b, mem_kids.mpr hk, rfl⟩)) h1
end KM
namespace KM
section
variable {ab : Ab} {r : Nat} {rk : Nat -> Nat} {ls : Ln}
theorem mids_pw {n : Nat} {ls : Ln} : (mids n ls).Pairwise (· < ·) := List.pairwise_lt_range.filter _
end
end KM
namespace L2
open PySem PySem.Spec PyProof.Rows
theorem comp_enumF {K : PySem.W.Frag} {a : Addr} {xs : List V} {js : List (Option Nat)} {g : TG} {ti : TT} {te : TE} {σ : St} {H1 : Hp} {Q : VK} (Pv : Addr -> Nat -> List V -> St -> Hp -> Prop)
    (h0 : ∀ D, H1 D = none -> Pv D 0 [] (outSt js σ) (upd H1 D (.lst []))) (hl : ∀ D i ys τ H, i <= xs.length -> Pv D i ys τ H -> SqL K H a xs)
    (hs : ∀ D (i : Nat) x p ys τ H, xs[i]? = some x -> Pv D i ys τ H -> H p = none -> g (.ref p) τ (upd H p (.tup [.int i, x])) fun τ2 H2 => ti τ2 H2 fun b H3 =>
      if b = true then te τ2 H3 fun y H4 => H4 D = some (.lst ys) /\ ys.length < sizeLine /\ Nx xs.length i (Pv D (i + 1) (ys ++ [y]) τ2 (upd H4 D (.lst (ys ++ [y]))))
      else Nx xs.length i (Pv D (i + 1) ys τ2 H3))
    (hd : ∀ D ys τ H, Pv D xs.length ys τ H -> Q (.ref D) H) : CompW (Ite K a) js g ti te σ H1 Q := by
  intro D hD; refine ⟨fun i m ys τ H => m = xs.length - i /\ i <= xs.length /\ Pv D i ys τ H, ⟨xs.length, by simp, Nat.zero_le _, h0 D hD⟩, ?_⟩
  rintro i m ys τ H ⟨rfl, hi, p⟩
  have q := hl D i ys τ H hi p
  by_cases hlt : i < xs.length
  . refine .inr ⟨⟨xs, xs[i], q, by simp [hlt]⟩, fun x H' y => ?_⟩
    refine hld fun g_ k_ => ?_; obtain ⟨pp, z, rfl, hp, rfl, hz⟩ := y; refine k_ ?_; exact hs D i z pp ys τ _ (hz xs q) p hp
  . have e : i = xs.length := by omega
    subst e; exact .inl ⟨⟨xs, q, Nat.le_refl _⟩, hd D ys τ H p⟩
section
variable {X : Cx} {N' : List Str} {scope : Scope} {cl : List (Str × Addr)} {C : Addr} {s₀ : Shared} {H₀ : Hp} {fp : List Addr}
theorem call_minLC (hc : X.calm = true) : CallR (compCx X N' scope cl C s₀ H₀ fp) (.builtin "min") (rMinL X.K) := call_minL (X := compCx X N' scope cl C s₀ H₀ fp) hc
end
end L2
namespace KD
open PySem L2 KM PyProof.Rows
theorem dashS : (Str.ofString "-") = mkS [45] := by decide +kernel
theorem join_dash (s t : Tx) : Txt.join (Str.ofString "-") [mkS s, mkS t] = mkS (s ++ 45 :: t) := by
  show Builtin.Str.glued _ _ = _
  rw [StrLaws.glued_eq_join, dashS]
  show mkS s ++ mkS [45] ++ mkS t = _
  rw [mkS_app, mkS_app, List.append_assoc]
  rfl
theorem srt_two (s t : Tx) : ∃ a b, srt [s, t] = [a, b] /\ a.length + b.length = s.length + t.length := by
  have hp := srt_perm [s, t]; have hl := hp.length_eq; have hs := (hp.map (·.length)).sum_nat
  match srt [s, t], hl, hs with
  | [a, b], _, hs => exact ⟨a, b, rfl, by simpa using hs⟩
theorem dash_two {s t a b : Tx} (h : srt [s, t] = [a, b]) : dash [s, t] = a ++ 45 :: b := by unfold dash; rw [h]
theorem kvW_put {ord : List Nat} {pa : Nat -> Option Nat} {c : Nat} (h : c ∉ ord) : putK (kvW ord pa) (.inl (c : Int)) (vO (pa c)) = kvW (ord ++ [c]) pa := by
  rw [putK_new _ (kvW_none.mpr h)]
  unfold kvW
  rw [List.map_append]
  rfl
theorem kvW_vals (ord : List Nat) (dp : Nat -> Nat) : (kvW ord fun k => some (dp k)).map (·.2) = ((ord.map dp).map fun n : Nat => (n : Int)).map V.int := by
  unfold kvW
  rw [List.map_map, List.map_map, List.map_map]
  rfl
theorem vN_int (l : List Nat) : l.map vN = (l.map fun n : Nat => (n : Int)).map V.int := by rw [List.map_map]; rfl
theorem not_mem_take {α : Type} {l : List α} {i : Nat} {x : α} (nd : l.Nodup) (h : l[i]? = some x) : x ∉ l.take i := fun z => by
  obtain ⟨j, hj⟩ := List.mem_iff_getElem?.mp z; rw [List.getElem?_take] at hj
  split at hj
  . rename_i hji
    have hjl := (List.getElem?_eq_some_iff.mp hj).1; have := (List.getElem?_inj hjl nd).mp (hj.trans h.symm)
    omega
  . cases hj
theorem mem_take_of {α : Type} {l : List α} {i j : Nat} {x : α} (h : l[j]? = some x) (hj : j < i) : x ∈ l.take i := by
  refine List.mem_iff_getElem?.mpr ⟨j, ?_⟩; rw [List.getElem?_take, if_pos hj]; exact h
inductive spFarness (C : Addr) (vs : (List V)) (H : Hp) (Q : VK) (E : XK) : Prop
  | mk (b : Addr) (bs : List Addr) (n v : Nat) (ls : Ln) (z1_ : vs = [.ref b, vN v]) (z2_ : BesideAt H b bs n ls) (z3_ : v < n) (z4_ : n <= 100) (z5_ : ls.length + 1 = n) (z6_ : (∀ p ∈ ls, p.1 < n /\ p.2 < n)) (z7_ : (IsFree n ls -> ∀ H', Same H H' -> Q (vN (ecc n ls v)) H')) (z8_ : (¬ IsFree n ls -> ∀ H', Same H H' -> E (.ref C) none H')) : spFarness C vs H Q E
inductive spMiddles (C : Addr) (vs : (List V)) (H : Hp) (Q : VK) (E : XK) : Prop
  | mk (t L : Addr) (ps : List Addr) (c : Int) (li : LI) (z1_ : vs = [.ref t]) (z2_ : TreeAt H t L ps c li) (z3_ : li.length <= 60) (z4_ : (FreeL c li -> ∀ (p : Addr) (H' : Hp), Same H H' -> H p = none -> H' p = some (.lst ((mids (li.length + 1) (ofL li)).map vN)) -> Q (.ref p) H')) (z5_ : (¬ FreeL c li -> ∀ H', Same H H' -> E (.ref C) none H')) : spMiddles C vs H Q E
inductive spFreeForm (C : Addr) (vs : (List V)) (H : Hp) (Q : VK) (E : XK) : Prop
  | mk (t L : Addr) (ps : List Addr) (c : Int) (li : LI) (z1_ : vs = [.ref t]) (z2_ : TreeAt H t L ps c li) (z3_ : li.length <= 60) (z4_ : (FreeL c li -> ∀ (H' : Hp), Same H H' -> Q (vT (ff (li.length + 1) (ofL li))) H')) (z5_ : (¬ FreeL c li -> ∀ H', Same H H' -> E (.ref C) none H')) : spFreeForm C vs H Q E
inductive spFarAt (vs : (List V)) (H : Hp) (Q : VK) (e_ : XK) : Prop
  | mk (b : Addr) (bs : List Addr) (n v : Nat) (ls : Ln) (z1_ : vs = [.ref b, vN v]) (z2_ : BesideAt H b bs n ls) (z3_ : IsFree n ls) (z4_ : v < n) (z5_ : n <= 100) (z6_ : ∀ H', Same H H' -> Q (vN (ecc n ls v)) H') : spFarAt vs H Q e_
inductive spMidsBy (vs : (List V)) (H : Hp) (Q : VK) (e_ : XK) : Prop
  | mk (b : Addr) (bs : List Addr) (n : Nat) (ls : Ln) (z1_ : vs = [.ref b]) (z2_ : BesideAt H b bs n ls) (z3_ : IsFree n ls) (z4_ : 0 < n) (z5_ : n <= 100) (z6_ : ∀ (p : Addr) (H' : Hp), Same H H' -> H p = none -> H' p = some (.lst ((mids n ls).map vN)) -> Q (.ref p) H') : spMidsBy vs H Q e_
inductive spFreeText (vs : (List V)) (H : Hp) (Q : VK) (e_ : XK) : Prop
  | mk (b : Addr) (bs : List Addr) (n : Nat) (ls : Ln) (z1_ : vs = [.ref b]) (z2_ : BesideAt H b bs n ls) (z3_ : IsFree n ls) (z4_ : 0 < n) (z5_ : n < 64) (z6_ : ∀ (H' : Hp), Same H H' -> Q (vT (ff n ls)) H') : spFreeText vs H Q e_
end KD
namespace KM
end KM
namespace KD
open PySem L2 KM PyProof.Rows
end KD
namespace KM
end KM
namespace L2
open PySem PySem.Spec PyProof.Rows
end L2
namespace KD
open PySem L2 KM PyProof.Rows
end KD
namespace L2
open PySem PySem.Spec PyProof.Rows
def ItS3 (lo c : Int) (n : Nat) : It := ⟨fun i _ => i < n, fun i H x H' => H' = H /\ x = .int (lo + (i : Nat) * c), fun i _ => n <= i⟩
theorem turn_step {P : Program} {w : World} {K : PySem.W.Frag} {tg : Expr} (it : Addr) (lo c : Int) (n : Nat) : Turn P w K tg (ItS3 lo c n) [it] it (fun i h => IsRangeIter h it (lo + (i : Nat) * c) ((n : Int) - (i : Nat)) c) where
  mem := by simp
  obj := fun i h st b hb => by
    have e : b = it := by simpa using hb
    subst e
    exact ⟨_, st, fun v z => by
      have z' : Data.fields _ = Data.cell v := z
      cases z'⟩
  keep := fun i h h' st k => k it (by simp) _ st
  item := by
    intro X hP hw hK hc i pins s σ H E I hf st hg; subst hP hw hK; refine hld fun g_ k_ => ?_; obtain ⟨f0, f1, f2, f3, f4, f5⟩ := hf it (by simp); refine k_ ?_
    have W := Walks.range (prog := X.prog) (w := X.w) (I.ok.hd hc) it lo c n; refine W.item i s _ _ hg st fun v h' tk hv st' kk => ?_; obtain ⟨t, rfl⟩ := hv; have I1 : Inv X pins σ H { s with heap := h', toks := tk } := I.turned (fun b o hb e => kk b o (by simpa using hb) e) f0 f1 f3 f4 f5
    exact ⟨_, rfl, go_of (s := { s with heap := h', toks := tk }) (n := "range_iterator") st' rfl rfl (by decide) ⟨.int (lo + (i : Nat) * c), H, I1, ⟨t, rfl⟩, ⟨rfl, rfl⟩, st', fun b hb => (hf b hb).1⟩⟩
  done := by
    intro X hP hw hK hc i pins s σ H E I hf st hg; subst hP hw hK; refine hld fun g_ k_ => ?_; obtain ⟨f0, f1, f2, f3, f4, f5⟩ := hf it (by simp); refine k_ ?_
    exact wpAny_pyNext_range_end (I.ok.hd hc) st (by have : n <= i := hg; omega) fun h' eb => ⟨rfl, I.turned (t' := s.toks) (fun b o hb e => eb b o hb e) f0 f1 f3 f4 f5⟩
  self := fun _ _ _ _ _ st h => wpAny_pyIter_rangeiter st h
section
variable {X : Cx} {tg : Expr}
theorem range_itS {pins : List (Addr × Obj)} {σ : St} {H : Hp} {s : Shared} {R : It -> Hp -> Prop} {E : Value -> Shared -> Prop} {lo hi c : Int} {t u v : Tok} {tk : Nat} (I : Inv X pins σ H s) (hs : Builtin.Range.small lo hi c = true) {n : Nat} (hn : (n : Int) = Builtin.Range.rangeSize lo hi c)
    (q : R (ItS3 lo c n) H) : wpAny (model X.prog X.w) X.A (pyIter (.ref s.heap.objs.size)) (PIE X pins σ tg R) E { s with heap := s.heap.push { cls := .type "range", data := .fields #[.int lo t, .int hi u, .int c v] }, toks := tk } := by
  refine wpAny_pyIter_range (IsRange.new ..) hs ?_; have I1 : Inv X pins σ H { s with heap := s.heap.push { cls := .type "range", data := .fields #[.int lo t, .int hi u, .int c v] }, toks := tk } := I.kept fun b o e => Heap.get?_push_of_some _ e
  refine ⟨(s.heap.push { cls := .type "range", data := .fields #[.int lo t, .int hi u, .int c v] }).objs.size, [(s.heap.push { cls := .type "range", data := .fields #[.int lo t, .int hi u, .int c v] }).objs.size], _, _, H, rfl,
    I1.kept (t' := tk) fun b o e => Heap.get?_push_of_some _ e, turn_step _ lo c n, ?_, fun b hb => ?_, q⟩
  . have e1 : lo + ((0 : Nat) : Int) * c = lo := by simp
    have e2 : ((n : Nat) : Int) - ((0 : Nat) : Int) = Builtin.Range.rangeSize lo hi c := by rw [<- hn]; omega
    show IsRangeIter _ _ (lo + ((0 : Nat) : Int) * c) (((n : Nat) : Int) - ((0 : Nat) : Int)) c
    rw [e1, e2]; exact Heap.get?_push_size _ rfl
  . have e : b = (s.heap.push { cls := .type "range", data := .fields #[.int lo t, .int hi u, .int c v] }).objs.size := by simpa using hb
    subst e; exact I1.fpOk (Nat.le_refl _) (I1.hok.fresh (Nat.le_refl _))
def iRng3 (ta : TA) : TI := fun σ H R => ta σ H fun vs H1 => ∃ i j c : Int, vs = [.int i, .int j, .int c] /\ 0 < c /\ Builtin.divisionGoesByPylong (j - i) c = false /\ Builtin.Range.small i j c = true /\ ∃ n : Nat, (n : Int) = Builtin.Range.rangeSize i j c /\ R (ItS3 i c n) H1
theorem pi_range3 {a b d : Expr} {ta : TA} {p pos : Pos} (hg : Gl X "range") (hm : X.mg "range" = none) (ha : PA X [a, b, d] ta) (hs : starEach [a, b, d] X.env = [(false, eval a X.env), (false, eval b X.env), (false, eval d X.env)] := by rfl) (hs2 : starEach [b, d] X.env = [(false, eval b X.env), (false, eval d X.env)] := by rfl) :
    PI X tg (.Call (.Name "range" p) [a, b, d] [] pos) (iRng3 ta) := by
  intro pins s σ H R I h; refine Call_ (ld_blt I hg hm boot_range (PyProof.Rows.callWith_type1 (thn (ha pos pins s σ H _ I h) fun us s1 ⟨vs, H1, I1, r1, q1⟩ => ?_) (by rw [hs, hs2]) (by rw [hs2]; rfl)))
  refine hld fun g_ k_ => ?_; obtain ⟨i, j, c, e, hc, hd, hsm, n, hn, q⟩ := q1; refine k_ ?_; subst e
  cases r1 with
  | cons r rr =>
    cases rr with
    | cons r' rr =>
      cases rr with
      | cons r'' rr =>
        cases rr
        obtain ⟨t, rfl⟩ := r; obtain ⟨t', rfl⟩ := r'; obtain ⟨t'', rfl⟩ := r''; exact call_range_3 (by omega) (range_itS I1 hsm hn q) (.inl hd)
theorem for_step {lo c : Int} {n : Nat} {g : TG} {tb : TS} {D : Ends} {σ : St} {H : Hp} (Pv : Nat -> St -> Hp -> Prop) (h0 : Pv 0 σ H)
    (hs : ∀ i σ H, i < n -> Pv i σ H -> g (.int (lo + (i : Nat) * c)) σ H fun σ2 H2 => tb { D with nx := Pv (i + 1), ct := Pv (i + 1), bk := D.nx } σ2 H2) (hd : ∀ σ H, Pv n σ H -> D.nx σ H) :
    ∃ W : Nat -> Nat -> St -> Hp -> Prop, (∃ m, W 0 m σ H) /\ ∀ i m σ H, W i m σ H ->
      ((ItS3 lo c n).stop i H /\ D.nx σ H) \/ ((ItS3 lo c n).go i H /\ ∃ N : St -> Hp -> Prop, (∀ σ' H', N σ' H' -> ∃ m', m' < m /\ W (i + 1) m' σ' H') /\ ∀ x H', (ItS3 lo c n).yld i H x H' -> g x σ H' fun σ2 H2 => tb { D with nx := N, ct := N, bk := D.nx } σ2 H2) := by
  refine ⟨fun i m σ H => m = n - i /\ i <= n /\ Pv i σ H, ⟨n, by simp, Nat.zero_le _, h0⟩, ?_⟩
  rintro i m σ H ⟨rfl, hi, p⟩
  by_cases hlt : i < n
  . refine .inr ⟨hlt, Pv (i + 1), fun σ' H' p' => ⟨n - (i + 1), by omega, rfl, hlt, p'⟩, fun x H' y => ?_⟩
    obtain ⟨e, y⟩ := y; subst e y; exact hs i σ _ hlt p
  . have e : i = n := by omega
    subst e; exact .inl ⟨Nat.le_refl _, hd σ H p⟩
end
section
variable {X : Cx}
inductive rInT (K : PySem.W.Frag) (x : V) (y : V) (H : Hp) (Q : VK) : Prop
  | mk (t : _) (p : _) (xs : _) (rs : _) (yss : _) (z1_ : x = .ref t) (z2_ : y = .ref p) (z3_ : H t = some (.tup xs)) (z4_ : TupsAt H p rs yss) (z5_ : xs.all flatV = true) (z6_ : Q (.bl (yss.any fun ys => eqL ys xs)) H) : rInT K x y H Q
theorem op_inT (hu : X.A.units + 1 < cLine) : OpR X (compareOp .In) (rInT X.K) := by
  intro pins s σ H x y v u Q I rx ry h; obtain ⟨t, p, xs, rs, yss, rfl, rfl, ht, G, f1, q⟩ := h
  cases rx
  cases ry
  obtain ⟨its, r, pl, _⟩ := I.list (SqL.of (K := X.K) G.top); refine SeqAt.in_listAt (eT H xs) pl.isList (fun w hw => ?_) ⟨.bl (yss.any fun ys => eqL ys xs), H, I, ?_, q⟩
  . have hw : w ∈ its := by simpa using hw
    obtain ⟨j, hj⟩ := List.mem_iff_getElem?.mp hw; have hjl : j < its.length := (List.getElem?_eq_some_iff.mp hj).1; have l1 := r.length; rw [List.length_map] at l1; have hjr : j < rs.length := by omega
    obtain ⟨u1, e1, q1⟩ := r.get (show (rs.map V.ref)[j]? = some (V.ref rs[j]) by rw [List.getElem?_map, List.getElem?_eq_getElem hjr]; rfl)
    rw [hj] at e1
    cases e1
    obtain rfl : w = Value.ref rs[j] := q1; have hjy : j < yss.length := by rw [<- G.len]; exact hjr
    have ec := G.each j rs[j] _ (List.getElem?_eq_getElem hjr) (List.getElem?_eq_getElem hjy)
    have e : eT H xs (.ref rs[j]) = eqL yss[j] xs := by
      show (match H rs[j] with | some (.tup ys) => eqL ys xs | _ => false) = _
      rw [ec]
    rw [e]; exact rc_tup I ec ht (G.flat _ (List.getElem_mem hjy)) f1 hu
  . show Value.bool _ = Value.bool _
    rw [show its.toArray.any (eT H xs) = its.any (eT H xs) by simp, any_eT r G.len G.each]
inductive rIndexT (K : PySem.W.Frag) (x : V) (vs : (List V)) (H : Hp) (Q : VK) : Prop
  | mk (p : _) (t : _) (xs : _) (rs : _) (yss : _) (j : _) (z1_ : x = .ref p) (z2_ : vs = [.ref t]) (z3_ : H t = some (.tup xs)) (z4_ : TupsAt H p rs yss) (z5_ : xs.all flatV = true) (z6_ : j < yss.length) (z7_ : (∀ ys, yss[j]? = some ys -> eqL ys xs = true)) (z8_ : (∀ m ys, m < j -> yss[m]? = some ys -> eqL ys xs = false)) (z9_ : Q (.int (j : Nat)) H) : rIndexT K x vs H Q
theorem mt_indexT (hu : X.A.units + 2 < cLine) : MtR X "list.index" (rIndexT X.K) := by
  intro pins s σ H x vs v us Q I rx rv h; obtain ⟨p, t, xs, rs, yss, j, rfl, rfl, ht, G, f1, hj, hz, hno, q⟩ := h
  cases rx
  obtain ⟨u, rfl, ru⟩ := rv.one; obtain rfl : u = Value.ref t := ru; obtain ⟨its, r, pl, hl⟩ := I.list (SqL.of (K := X.K) G.top); refine hld fun g_ k_ => ?_; obtain ⟨⟨oc, od, oda, osl⟩, ho, hc, n, hd⟩ := id pl.isList; refine k_ ?_
  dsimp only at hc hd
  subst hc hd; have l1 := r.length; rw [List.length_map] at l1 hl; have gl := G.len; have n63 := line63
  have key : ∀ (m : Nat) (hm : m < its.toArray.size) (ys : List V), yss[m]? = some ys -> eT H xs its.toArray[m] = eqL ys xs := by
    intro m hm ys hy; rw [List.size_toArray] at hm; have hmr : m < rs.length := by omega
    obtain ⟨w1, e1, q1⟩ := r.get (show (rs.map V.ref)[m]? = some (V.ref rs[m]) by rw [List.getElem?_map, List.getElem?_eq_getElem hmr]; rfl)
    have e3 : its.toArray[m] = w1 := by
      rw [List.getElem?_eq_getElem hm] at e1
      simpa using Option.some.inj e1
    rw [e3]; obtain rfl : w1 = Value.ref rs[m] := q1
    show (match H rs[m] with | some (.tup ys) => eqL ys xs | _ => false) = _
    rw [G.each m rs[m] ys (List.getElem?_eq_getElem hmr) hy]
  refine call_meets PySem.F.slot_list_index pl.isList.typeIs PySem.F.entry_list_index (PySem.F.args_list_index_2 _ _)
    (SeqAt.list_indexAt p its.toArray n od osl (.ref t) (eT H xs) j (by rw [List.size_toArray]; omega) (by omega) ?_ ?_) ⟨ho, fun w hw => ?_, ?_⟩
  . rw [key j _ _ (List.getElem?_eq_getElem hj)]
    exact hz _ (List.getElem?_eq_getElem hj)
  . intro m hm hmj
    rw [List.size_toArray] at hm; have hy : yss[m]? = some yss[m] := List.getElem?_eq_getElem (by omega)
    rw [key m _ _ hy]; exact hno m _ hmj hy
  . have hw : w ∈ its := by simpa using hw
    obtain ⟨j, hj⟩ := List.mem_iff_getElem?.mp hw; have hjl : j < its.length := (List.getElem?_eq_some_iff.mp hj).1; have hjr : j < rs.length := by omega
    obtain ⟨u1, e1, q1⟩ := r.get (show (rs.map V.ref)[j]? = some (V.ref rs[j]) by rw [List.getElem?_map, List.getElem?_eq_getElem hjr]; rfl)
    rw [hj] at e1
    cases e1
    obtain rfl : w = Value.ref rs[j] := q1; have hjy : j < yss.length := by rw [<- G.len]; exact hjr
    have ec := G.each j rs[j] _ (List.getElem?_eq_getElem hjr) (List.getElem?_eq_getElem hjy)
    have e : eT H xs (.ref rs[j]) = eqL yss[j] xs := by
      show (match H rs[j] with | some (.tup ys) => eqL ys xs | _ => false) = _
      rw [ec]
    rw [e]; exact rc_tup I ec ht (G.flat _ (List.getElem_mem hjy)) f1 (by show X.A.units + 1 < cLine; omega)
  . exact ⟨.int (j : Nat), H, I.tok _, ⟨_, rfl⟩, q⟩
end
section
variable {X : Cx} {k : Nat} {f C : Addr} {fd : FuncData} {ps : List Str} {sp : Sp} {dvs : List V} {ds : List Value} {m : Str} {pos apos : Pos} {e o : Expr} {es : List Expr} {ta : TE} {t : TA}
theorem psx_if {c : Expr} {a b : List Stmt} {tc : TT} {t u : TSx} (hc : PT X.nox c tc) (ha : PSsx X a t) (hb : PSsx X b u) : PSx X (.If c a b pos) fun D R σ H => tc σ H fun d H1 => if d = true then t D R σ H1 else u D R σ H1 := by
  intro pins s σ H D R I h; refine wpAny_If (wpAny_mono (hc pins s σ H _ (I.wish _) h) (fun d s1 ⟨H1, I1, q1⟩ => ?_) fun _ _ z => False.elim z)
  cases d with
  | true => exact ha pins s1 σ H1 D R I1.unwish q1
  | false => exact hb pins s1 σ H1 D R I1.unwish q1
theorem psx_calm {st : Stmt} {t : TS} (h : PS X.nox st t) : PSx X st fun D _ σ H => t D σ H := by
  intro pins s σ H D R I hw; refine wpAny_mono (h pins s σ H D (I.wish _) hw) (fun fl s1 q => ?_) fun _ _ z => False.elim z
  cases fl with
  | next => obtain ⟨σ', H', I', q⟩ := q; exact ⟨σ', H', I'.unwish, q⟩
  | brk => obtain ⟨σ', H', I', q⟩ := q; exact ⟨σ', H', I'.unwish, q⟩
  | cont => obtain ⟨σ', H', I', q⟩ := q; exact ⟨σ', H', I'.unwish, q⟩
  | ret u => obtain ⟨v, σ', H', I', r, q⟩ := q; exact ⟨v, σ', H', I'.unwish, r, q⟩
theorem psx_nil : PSsx X [] fun D _ σ H => D.nx σ H := fun pins s σ H D R I h => wpAny_execs_nil ⟨σ, H, I, h⟩
def tMethX (C : Addr) (m : Str) (sp : Sp) (dvs : List V) (ta : TE) (t : TA) : TEx := fun σ H Q R => ta σ H fun x H1 => ∃ a dx fs, x = .ref a /\ H1 a = some (.ins C dx fs) /\ fs.lookup m = none /\
  t σ H1 fun vs H2 => sp (x :: (vs ++ dvs)) H2 Q fun cls _ H' => R cls H'
theorem pex_meth {pl : Sem Bool} (he : PE X.nox o ta) (c : Cls X.K C) (hm : Meth X.K C m f) (F : FnOk X.prog X.w X.K X.mg X.base (CXe X.prog X.w) k f fd ps sp) (hr : Room k X.A) (hb : Binds X.K fd ps ds) (hd : Vals dvs ds) (ha : PA X.nox (e :: es) t)
    (hst : starEach (e :: es) X.env = (false, eval e X.env) :: starEach es X.env := by rfl) (hpl : (backTo pos (starEach es X.env)).any (·.1) = false := by rfl)
    (ht : eval (.Call (.Attribute o m apos) (e :: es) [] pos) X.env = (do
      let ov <- eval o X.env
      standAt apos.atName
      let (f, first) <- holding [ov] (getMethod ov m pl)
      callWith pos f first (backTo pos (starEach (e :: es) X.env)) (backToKw pos (keywordEach [] X.env))) := by rfl) :
    PEx X (.Call (.Attribute o m apos) (e :: es) [] pos) (tMethX C m sp dvs ta t) := by
  intro pins s σ H Q R I h; refine PySem.W.methodCall_KW (pl := pl) (wpAny_mono (he pins s σ H _ (I.wish _) h) (fun u s1 ⟨x, H1, I1, rx, a, dx, fs, ex, ea, l, q⟩ => ?_) fun _ _ z => False.elim z) ht; subst ex; obtain rfl : u = Value.ref a := rx; have I1 := I1.unwish; refine getmeth_ok I1 ea c hm l ?_; refine PySem.W.callWith_K (first := [.ref a]) (h₀ := X.base) I.ok.mod.kin hm.kp (wpAny_mono (ha pos pins s1 σ H1 _ (I1.wish _) q) (fun us s2 ⟨vs, H2, I2, r, q2⟩ => ⟨I2.kIn, ?_⟩) fun _ _ z => False.elim z) hst hpl; have I2 := I2.unwish; have r2 : Vals (V.ref a :: (vs ++ dvs)) (Value.ref a :: (us ++ ds)) := .cons rfl (r.append hd)
  have hl : ((Value.ref a :: us) ++ ds).length = ps.length := by
    have := F.len _ _ _ _ q2; rw [r2.length] at this; exact this
  refine wpAny_call (codeAny_mono (F.run X.A X.stack s2 H2 ⟨Value.ref a :: us, []⟩ (Value.ref a :: (us ++ ds)) (V.ref a :: (vs ++ dvs)) Q _ hr I2.env0 (hb s2 (Value.ref a :: us) I2.kIn hl) r2 q2) fun r s' hq => ?_)
  cases r with
  | error e =>
    obtain ⟨a', cls, H', B, e1, F1, hE⟩ := Fly.of (E := fun cls _ H' => R cls H') (e := e) (s' := s') I2 hq; exact ⟨a', cls, H2, s2, H', B, e1, F1, hE⟩
  | ok fl =>
    cases fl with
    | ret u => exact I2.after hq
    | next => exact False.elim hq
    | brk => exact False.elim hq
    | cont => exact False.elim hq
end
end L2
namespace KM
abbrev Kd := Bool × Tx
inductive DD where
  | tr (b : Bool) (o : Option Tx)
  | fo (i : Int)
inductive Ans where
  | tx (t : Tx) | pr (i n : Nat) | nt | nk
def bkK (ks : List Kd) (x : Kd) : List Kd := if x ∈ ks then ks else ks ++ [x]
def bkA (ks : List Kd) (ts : List Nat) (x : Kd) : List Nat := if x ∈ ks then ts else ts ++ [0]
def bkN (ks : List Kd) (ts : List Nat) (x : Kd) : Nat := (bkA ks ts x).getD (ks.idxOf x) 0 + 1
def bkT (ks : List Kd) (ts : List Nat) (x : Kd) : List Nat := (bkA ks ts x).set (ks.idxOf x) (bkN ks ts x)
theorem bkA_len {ks : List Kd} {ts : List Nat} (h : ts.length = ks.length) (x : Kd) : (bkA ks ts x).length = (bkK ks x).length := by
  unfold bkA bkK
  split
  . exact h
  . rw [List.length_append, List.length_append, h]; rfl
theorem bk_idx {ks : List Kd} (x : Kd) : ks.idxOf x < (bkK ks x).length := by
  unfold bkK
  split
  . rename_i h; exact List.idxOf_lt_length_of_mem h
  . rename_i h
    rw [List.length_append, List.idxOf_eq_length h]; exact Nat.lt_succ_self _
theorem bkK_at {ks : List Kd} (x : Kd) : (bkK ks x)[ks.idxOf x]? = some x := by
  unfold bkK
  split
  . rename_i h
    have hl := List.idxOf_lt_length_of_mem h; rw [List.getElem?_eq_getElem hl, List.getElem_idxOf hl]
  . rename_i h
    rw [List.idxOf_eq_length h, List.getElem?_append_right (Nat.le_refl _), Nat.sub_self]
    rfl
theorem bkK_before {ks : List Kd} (x : Kd) {m : Nat} {y : Kd} (hm : m < ks.idxOf x) (h : (bkK ks x)[m]? = some y) : y ≠ x := by
  have hl : m < ks.length := Nat.lt_of_lt_of_le hm List.idxOf_le_length
  have e : (bkK ks x)[m]? = ks[m]? := by
    unfold bkK
    split
    . rfl
    . rw [List.getElem?_append_left hl]
  rw [e, List.getElem?_eq_getElem hl] at h
  rintro rfl
  have := List.not_of_lt_findIdx (p := (· == y)) hm; rw [Option.some.inj h] at this
  simp at this
theorem bkT_len {ks : List Kd} {ts : List Nat} (h : ts.length = ks.length) (x : Kd) : (bkT ks ts x).length = (bkK ks x).length := by
  unfold bkT
  rw [List.length_set]; exact bkA_len h x
theorem bkA_at {ks : List Kd} {ts : List Nat} (h : ts.length = ks.length) (x : Kd) : (bkA ks ts x)[ks.idxOf x]? = some ((bkA ks ts x).getD (ks.idxOf x) 0) := by
  have hl : ks.idxOf x < (bkA ks ts x).length := by rw [bkA_len h]; exact bk_idx x
  rw [List.getD_eq_getElem?_getD, List.getElem?_eq_getElem hl]
  rfl
theorem bkT_at {ks : List Kd} {ts : List Nat} (h : ts.length = ks.length) (x : Kd) : (bkT ks ts x)[ks.idxOf x]? = some (bkN ks ts x) := by
  have hl : ks.idxOf x < (bkA ks ts x).length := by rw [bkA_len h]; exact bk_idx x
  unfold bkT
  rw [List.getElem?_set_self hl]
theorem bkK_le {ks : List Kd} (x : Kd) : (bkK ks x).length <= ks.length + 1 := by
  unfold bkK
  split
  . omega
  . rw [List.length_append]; exact Nat.le_refl _
abbrev Sb := List Kd × List Nat
def stp (s : Sb) : DD -> Sb
  | .tr b (some t) => (bkK s.1 (b, t), bkT s.1 s.2 (b, t))
  | _ => s
def ans (s : Sb) : DD -> Ans
  | .tr b (some t) => .pr (s.1.idxOf (b, t)) (bkN s.1 s.2 (b, t))
  | .tr _ none => .nt
  | .fo i => if i < 0 \/ (s.1.length : Int) <= i then .nk else .tx (s.1.getD i.toNat (true, [])).2
def sAt (ds : List DD) (i : Nat) : Sb := (ds.take i).foldl stp ([], [])
theorem sAt_zero (ds : List DD) : sAt ds 0 = ([], []) := by unfold sAt; rw [List.take_zero]; rfl
theorem sAt_succ {ds : List DD} {i : Nat} {d : DD} (h : ds[i]? = some d) : sAt ds (i + 1) = stp (sAt ds i) d := by
  unfold sAt
  rw [List.take_add_one, h, List.foldl_append]
  rfl
def HdO (o : Option Tx) : Prop := ∀ t, o = some t -> t.head? = some 40
def HdD : DD -> Prop
  | .tr _ o => HdO o
  | .fo _ => True
structure SOk (s : Sb) (i : Nat) : Prop where
  len : s.2.length = s.1.length
  le : s.1.length <= i
  hd : ∀ x ∈ s.1, x.2.head? = some 40
theorem SOk.step {s : Sb} {i : Nat} (h : SOk s i) {d : DD} (hd : HdD d) : SOk (stp s d) (i + 1) := by
  match d, hd with
  | .tr b (some t), hd =>
    refine ⟨bkT_len h.len _, Nat.le_trans (bkK_le _) (Nat.succ_le_succ h.le), fun x hx => ?_⟩; have hx : x ∈ bkK s.1 (b, t) := hx
    unfold bkK at hx
    split at hx
    . exact h.hd x hx
    . rcases List.mem_append.mp hx with hx | hx
      . exact h.hd x hx
      . rw [List.mem_singleton.mp hx]
        exact hd t rfl
  | .tr b none, _ => exact ⟨h.len, Nat.le_succ_of_le h.le, h.hd⟩
  | .fo i, _ => exact ⟨h.len, Nat.le_succ_of_le h.le, h.hd⟩
theorem sOk_at {ds : List DD} (h : ∀ d ∈ ds, HdD d) : ∀ i, i <= ds.length -> SOk (sAt ds i) i
  | 0, _ => by rw [sAt_zero]; exact ⟨rfl, Nat.le_refl _, fun x hx => (nomatch hx)⟩
  | i + 1, hi => by
    have e : ds[i]? = some ds[i] := List.getElem?_eq_getElem hi; rw [sAt_succ e]; exact (sOk_at h i (Nat.le_of_succ_le hi)).step (h _ (List.getElem_mem hi))
def HdA : Ans -> Prop
  | .tx t => t.head? = some 40
  | _ => True
theorem SOk.ans {s : Sb} {i : Nat} (h : SOk s i) (d : DD) : HdA (ans s d) := by
  match d with
  | .tr b (some t) => exact True.intro
  | .tr b none => exact True.intro
  | .fo j =>
    show HdA (if j < 0 \/ (s.1.length : Int) <= j then .nk else .tx (s.1.getD j.toNat (true, [])).2)
    split
    . exact True.intro
    . rename_i hj
      have hl : j.toNat < s.1.length := by omega
      show (s.1.getD j.toNat (true, [])).2.head? = some 40
      rw [List.getD_eq_getElem?_getD, List.getElem?_eq_getElem hl]; exact h.hd _ (List.getElem_mem hl)
end KM
namespace KM
theorem fm_hd {ab : Ab} {k : Nat} (h : k < ab.length) : (fm ab k).head? = some 40 := by
  unfold fm
  cases hn : ab.length with
  | zero => omega
  | succ n => rfl
theorem dash_hd {x y : Tx} (hx : x.head? = some 40) (hy : y.head? = some 40) : (dash [x, y]).head? = some 40 := by
  have hp := srt_perm [x, y]
  unfold dash
  generalize srt [x, y] = l at hp; have hl := hp.length_eq
  match l, hl with
  | [a, b], _ =>
  show (a ++ 45 :: b).head? = some 40
  have : a.head? = some 40 := by
    have : a ∈ [x, y] := hp.mem_iff.mp (by simp)
    rcases List.mem_cons.mp this with rfl | this
    . exact hx
    . rw [List.mem_singleton.mp this]; exact hy
  cases a with
  | nil => cases this
  | cons c a => exact this
theorem ff_hd {n : Nat} {ls : Ln} (F : IsFree n ls) (hn : 0 < n) : (ff n ls).head? = some 40 := by
  have hh : ∀ v k, v < n -> k < n -> (br n ls v k).head? = some 40 := fun v k hv hk => by
    obtain ⟨hl, _⟩ := at_spec F hv; exact fm_hd (by rw [hl]; exact hk)
  rcases mids_cases F hn with ⟨m, e⟩ | ⟨a, b, e, _, _⟩
  . have hm : m < n := mids_lt (ls := ls) (by rw [e]; simp)
    rw [ff_one e]; obtain ⟨hl, _⟩ := at_spec F hm; exact fm_hd (by rw [hl]; exact hm)
  . have ha : a < n := mids_lt (ls := ls) (by rw [e]; simp)
    have hb : b < n := mids_lt (ls := ls) (by rw [e]; simp)
    rw [ff_two e]; exact dash_hd (hh b a hb ha) (hh a b ha hb)
theorem two_at0 : RootedAt 2 [(0, 1)] 0 [none, some 0] := by
  refine ⟨rfl, ⟨id, ?_⟩, ?_⟩
  . exact (Up.tree ⟨rfl, fun j hj hl => by
      match j, hj, hl with
      | 1, _, _ => exact ⟨0, rfl, by decide⟩⟩)
  . show ([(0, 1)].map nrm).Perm ((eds [none, some 0]).map nrm)
    decide
theorem two_at1 : RootedAt 2 [(0, 1)] 1 [some 1, none] := by
  refine ⟨rfl, ⟨fun j => 1 - j, ?_⟩, ?_⟩
  . refine ⟨rfl, fun j h => ?_, fun j p h => ?_, fun j hj => ?_⟩
    . match j, h with
      | 1, _ => rfl
      | 0, h => cases h
      | j + 2, h => cases h
    . match j, h with
      | 1, h => cases h
      | j + 2, h => cases h
      | 0, h => cases h; exact ⟨by decide, by decide⟩
    . show 1 - j < 2
      omega
  . show ([(0, 1)].map nrm).Perm ((eds [some 1, none]).map nrm)
    decide
theorem two_free : IsFree 2 [(0, 1)] := isFree_of two_at0
theorem two_ff : ff 2 [(0, 1)] = [40, 41, 45, 40, 41] := by
  have h0 := at_eq two_free (by decide) two_at0
  have h1 := at_eq two_free (by decide) two_at1
  have em : mids 2 [(0, 1)] = [0, 1] := by
    have e0 : ecc 2 [(0, 1)] 0 = 1 := ecc_eq two_free (by decide) (ecc_of two_at0 (fun k d hk hd => by
      match k, hk, hd with
      | 0, _, hd => rw [hd.det (.root rfl)]; decide
      | 1, _, hd => rw [hd.det (.up rfl (.root rfl))]; decide) ⟨1, by decide, .up rfl (.root rfl)⟩)
    have e1 : ecc 2 [(0, 1)] 1 = 1 := ecc_eq two_free (by decide) (ecc_of two_at1 (fun k d hk hd => by
      match k, hk, hd with
      | 1, _, hd => rw [hd.det (.root rfl)]; decide
      | 0, _, hd => rw [hd.det (.up rfl (.root rfl))]; decide) ⟨0, by decide, .up rfl (.root rfl)⟩)
    have hw : ∀ w, w < 2 -> ecc 2 [(0, 1)] w = 1 := fun w hw => by
      match w, hw with
      | 0, _ => exact e0
      | 1, _ => exact e1
    have m0 : 0 ∈ mids 2 [(0, 1)] := mem_mids.mpr ⟨by decide, fun w h => by rw [hw w h, e0]; decide⟩
    have m1 : 1 ∈ mids 2 [(0, 1)] := mem_mids.mpr ⟨by decide, fun w h => by rw [hw w h, e1]; decide⟩
    rcases mids_cases two_free (by decide) with ⟨m, e⟩ | ⟨a, b, e, hab, _⟩
    . rw [e] at m0 m1
      have := List.mem_singleton.mp m0; have := List.mem_singleton.mp m1
      omega
    . have pw := mids_pw (n := 2) (ls := [(0, 1)])
      rw [e] at m0 m1 pw ⊢; have hlt : a < b := (List.pairwise_cons.mp pw).1 b (by simp)
      simp at m0 m1
      have : a = 0 := by omega
      have : b = 1 := by omega
      subst a b
      rfl
  rw [ff_two em]
  unfold br
  rw [h0, h1]; have sn : srt [] = [] := (srt_perm []).eq_nil
  have f0 : fm [some 1, none] 0 = [40, 41] := by
    show brk (srt ((kids [some 1, none] 0).map _)).flatten = _
    rw [show kids [some 1, none] 0 = [] from rfl, List.map_nil, sn]
    rfl
  have f1 : fm [none, some 0] 1 = [40, 41] := by
    show brk (srt ((kids [none, some 0] 1).map _)).flatten = _
    rw [show kids [none, some 0] 1 = [] from rfl, List.map_nil, sn]
    rfl
  rw [f0, f1]; have hp := srt_perm [[40, 41], [40, 41]]
  unfold dash
  generalize srt [[40, 41], [40, 41]] = l at hp; have hl := hp.length_eq
  match l, hl with
  | [a, b], _ =>
    have ha : a ∈ ([[40, 41], [40, 41]] : List Tx) := hp.mem_iff.mp (by simp)
    have hb : b ∈ ([[40, 41], [40, 41]] : List Tx) := hp.mem_iff.mp (by simp)
    simp at ha hb
    subst ha hb
    rfl
theorem two_tree : Tree [some 1, none] 1 (fun j => 1 - j) := by
  refine ⟨rfl, fun j h => ?_, fun j p h => ?_, fun j hj => ?_⟩
  . match j, h with
    | 1, _ => rfl
    | 0, h => cases h
    | j + 2, h => cases h
  . match j, h with
    | 1, h => cases h
    | j + 2, h => cases h
    | 0, h => cases h; exact ⟨by decide, by decide⟩
  . show 1 - j < 2
    omega
end KM
namespace KD
open PySem L2 KM PyProof.Rows
def cbody (s : Stmt) (i : Nat) : Stmt := match s with
  | .ClassDef _ _ _ b _ _ _ _ _ _ _ => b.getD i (.Pass ⟨0, 0, 0, 0⟩)
  | _ => .Pass ⟨0, 0, 0, 0⟩
structure KitM (P : Program) (w : World) (K : PySem.W.Frag) (mg : Str -> Option Value) (base : Heap) (CX : CXT) (k : Nat) (C : Addr) (m : Str) (ps : List Str) (sp : Sp) (f : Addr) (fd : FuncData) : Prop where
  ok : FnOk P w K mg base CX k f fd ps sp
  bd : Binds K fd ps []
  mt : Meth K C m f
structure BookC (K : PySem.W.Frag) (C : Addr) : Prop where
  cls : Cls K C
  nu : NoAttr K C "numbers"
  fo : NoAttr K C "forms"
  co : NoAttr K C "counts"
def told : Bool -> Str
  | true => "rooted"
  | false => "free"
theorem told_ne : told true ≠ told false := by decide +kernel
theorem told_inj : ∀ {a b : Bool}, told a = told b -> a = b
  | true, true, _ => rfl
  | false, false, _ => rfl
  | true, false, h => absurd h told_ne
  | false, true, h => absurd h.symm told_ne
def keyB (x : Kd) : List Key := [.inr (told x.1), .inr (mkS x.2)]
def pairB (x : Kd) : List V := [.str (told x.1), vT x.2]
theorem keyB_inj {x y : Kd} (h : keyB x = keyB y) : x = y := by
  obtain ⟨a, s⟩ := x; obtain ⟨b, t⟩ := y; have h : ([.inr (told a), .inr (mkS s)] : List Key) = [.inr (told b), .inr (mkS t)] := h
  injection h with h1 h2
  injection h1 with h1
  injection h2 with h2 _
  injection h2 with h2
  rw [told_inj h1, mkS_inj h2]
def kvF (ks : List Kd) (i : Nat) : List (List Key × V) := (ks.zipIdx i).map fun p => (keyB p.1, vN p.2)
def kvB (ks : List Kd) : List (List Key × V) := kvF ks 0
theorem kvF_val (x : Kd) : ∀ (ks : List Kd) (i : Nat), valV (kvF ks i) (keyB x) = if x ∈ ks then some (vN (i + ks.idxOf x)) else none
  | [], i => by rw [if_neg (by simp)]; rfl
  | y :: ks, i => by
    have e : kvF (y :: ks) i = (keyB y, vN i) :: kvF ks (i + 1) := rfl; rw [e]
    by_cases h : y = x
    . subst h
      rw [valV_pos (by rfl), if_pos (by simp), List.idxOf_cons_self]
      rfl
    . rw [valV_neg (fun z => h (keyB_inj z)), kvF_val x ks (i + 1)]
      by_cases hx : x ∈ ks
      . rw [if_pos hx, if_pos (List.mem_cons_of_mem _ hx), List.idxOf_cons, (by simpa using h : (y == x) = false), cond_false]
        rw [show i + 1 + ks.idxOf x = i + (ks.idxOf x).succ by omega]
      . rw [if_neg hx, if_neg (fun z => (List.mem_cons.mp z).elim (fun z => h z.symm) hx)]
theorem kvB_in {ks : List Kd} {x : Kd} (h : x ∈ ks) : valV (kvB ks) (keyB x) = some (vN (ks.idxOf x)) := by
  rw [kvB, kvF_val, if_pos h, Nat.zero_add]
theorem kvB_out {ks : List Kd} {x : Kd} (h : x ∉ ks) : valV (kvB ks) (keyB x) = none := by
  rw [kvB, kvF_val, if_neg h]
theorem kvB_put {ks : List Kd} {x : Kd} (h : x ∉ ks) : putK (kvB ks) (keyB x) (vN ks.length) = kvB (ks ++ [x]) := by
  rw [putK_new _ (kvB_out h)]
  unfold kvB kvF
  rw [List.zipIdx_append, List.map_append]
  show _ = _ ++ [(keyB x, vN (0 + ks.length))]
  rw [Nat.zero_add]
theorem kvB_len (ks : List Kd) : (kvB ks).length = ks.length := by unfold kvB kvF; rw [List.length_map, List.length_zipIdx]
def SameX (D : List Addr) (H H' : Hp) : Prop := ∀ a o, a ∉ D -> H a = some o -> H' a = some o
theorem Same.x {H H' : Hp} (s : Same H H') (D : List Addr) : SameX D H H' := fun a o _ h => s a o h
theorem SameX.trans {D : List Addr} {H H1 H2 : Hp} (a : SameX D H H1) (b : SameX D H1 H2) : SameX D H H2 := fun c o n h => b c o n (a c o n h)
theorem SameX.put {D : List Addr} {H H1 : Hp} (a : SameX D H H1) {p : Addr} (hp : p ∈ D) (o : HO) : SameX D H (upd H1 p o) := fun c u n h => by
  rw [upd_ne (fun z => n (by rw [z]; exact hp))]
  exact a c u n h
theorem SameX.base {D : List Addr} {H0 H H' : Hp} (s : Same H0 H) (a : SameX D H H') (n : ∀ b ∈ D, H0 b = none) : Same H0 H' := fun c o h =>
  a c o (fun z => by rw [n c z] at h; cases h) (s c o h)
def fsB (dn lf lc : Addr) : List (Str × V) := [("numbers", .ref dn), ("forms", .ref lf), ("counts", .ref lc)]
structure BookAt (C : Addr) (H : Hp) (b dn lf lc : Addr) (s : Sb) : Prop where
  ob : ∃ dx, H b = some (.ins C dx (fsB dn lf lc))
  nu : H dn = some (.dT (kvB s.1))
  fo : H lf = some (.lst (s.1.map fun x => vT x.2))
  co : H lc = some (.lst (s.2.map vN))
  len : s.2.length = s.1.length
  ne : lf ≠ lc
theorem BookAt.up {C : Addr} {H H' : Hp} {b dn lf lc : Addr} {s : Sb} (G : BookAt C H b dn lf lc s) (e : Same H H') : BookAt C H' b dn lf lc s :=
  ⟨let ⟨dx, h⟩ := G.ob; ⟨dx, e _ _ h⟩, e _ _ G.nu, e _ _ G.fo, e _ _ G.co, G.len, G.ne⟩
theorem BookAt.upX {C : Addr} {H H' : Hp} {b dn lf lc : Addr} {s : Sb} {D : List Addr} (G : BookAt C H b dn lf lc s) (e : SameX D H H') (h1 : b ∉ D) (h2 : dn ∉ D) (h3 : lf ∉ D) (h4 : lc ∉ D) : BookAt C H' b dn lf lc s :=
  ⟨let ⟨dx, h⟩ := G.ob; ⟨dx, e _ _ h1 h⟩, e _ _ h2 G.nu, e _ _ h3 G.fo, e _ _ h4 G.co, G.len, G.ne⟩
theorem BookAt.tup {C : Addr} {H : Hp} {b dn lf lc : Addr} {s : Sb} (G : BookAt C H b dn lf lc s) {p : Addr} {xs : List V} (h : H p = some (.tup xs)) : p ∉ [dn, lf, lc] := fun z => by
  rcases List.mem_cons.mp z with rfl | z
  . rw [G.nu] at h; cases h
  . rcases List.mem_cons.mp z with rfl | z
    . rw [G.fo] at h; cases h
    . rw [List.mem_singleton.mp z, G.co] at h; cases h
def big : Int := 10 ^ 20
def RtO (g : Bool) (A : AI) : Option Tx -> Prop
  | some x => ∃ (ab : Ab) (r : Nat) (rk : Nat -> Nat), A = ab.map toI /\ Tree ab r rk /\ (g = true -> Up ab /\ r = 0) /\ ab.length <= 20 /\ x = fm ab r
  | none => A.length <= 20 /\ ¬ Rtd A /\ some big ∈ A
def FrO (c : Int) (li : LI) : Option Tx -> Prop
  | some x => ∃ (n : Nat) (ls : Ln), c = (n : Int) /\ li = toL ls /\ IsFree n ls /\ 0 < n /\ n <= 20 /\ x = ff n ls
  | none => li.length <= 20 /\ ¬ FreeL c li /\ ((0 : Int), big) ∈ li
def ArgAt (g : Bool) (H : Hp) (v : V) (o : Option Tx) : Bool -> Prop
  | true => ∃ (a : Addr) (A : AI), v = .ref a /\ H a = some (.lst (A.map vI)) /\ RtO g A o
  | false => ∃ (t L : Addr) (ps : List Addr) (c : Int) (li : LI), v = .ref t /\ TreeAt H t L ps c li /\ FrO c li o
theorem ArgAt.up {g : Bool} {H H' : Hp} {v : V} {o : Option Tx} : ∀ {b : Bool}, ArgAt g H v o b -> Same H H' -> ArgAt g H' v o b
  | true, ⟨a, A, h1, h2, h3⟩, s => ⟨a, A, h1, s _ _ h2, h3⟩
  | false, ⟨t, L, ps, c, li, h1, h2, h3⟩, s => ⟨t, L, ps, c, li, h1, h2.up s, h3⟩
theorem RtO.any {A : AI} {o : Option Tx} (h : RtO true A o) : RtO false A o := by
  cases o with
  | none => exact h
  | some x =>
    obtain ⟨ab, r, rk, h1, h2, h3, h4, h5⟩ := h; exact ⟨ab, r, rk, h1, h2, fun z => Bool.noConfusion z, h4, h5⟩
theorem ArgAt.any {H : Hp} {v : V} {o : Option Tx} : ∀ {b : Bool}, ArgAt true H v o b -> ArgAt false H v o b
  | true, ⟨a, A, h1, h2, h3⟩ => ⟨a, A, h1, h2, h3.any⟩
  | false, h => h
def DeedAt (H : Hp) (t : Addr) : DD -> Prop
  | .fo i => H t = some (.tup [.str "form", .int i])
  | .tr b o => ∃ v, H t = some (.tup [.str (told b), v]) /\ ArgAt true H v o b
theorem DeedAt.up {H H' : Hp} {t : Addr} : ∀ {d : DD}, DeedAt H t d -> Same H H' -> DeedAt H' t d
  | .fo i, h, s => s _ _ h
  | .tr b o, ⟨v, h1, h2⟩, s => ⟨v, s _ _ h1, h2.up s⟩
theorem RtO.hd {g : Bool} {A : AI} {o : Option Tx} (h : RtO g A o) : HdO o := fun t e => by
  subst e; obtain ⟨ab, r, rk, _, T, _, _, rfl⟩ := h; exact fm_hd (List.getElem?_eq_some_iff.mp T.root).1
theorem FrO.hd {c : Int} {li : LI} {o : Option Tx} (h : FrO c li o) : HdO o := fun t e => by
  subst e; obtain ⟨n, ls, _, _, F, hn, _, rfl⟩ := h; exact ff_hd F hn
theorem DeedAt.hd {H : Hp} {t : Addr} : ∀ {d : DD}, DeedAt H t d -> HdD d
  | .fo i, _ => True.intro
  | .tr true o, ⟨v, _, a, A, _, _, h⟩ => h.hd
  | .tr false o, ⟨v, _, t, L, ps, c, li, _, _, h⟩ => h.hd
structure DeedsAt (H : Hp) (l : Addr) (rs : List Addr) (ds : List DD) : Prop where
  top : H l = some (.lst (rs.map V.ref))
  len : rs.length = ds.length
  each : ∀ (j : Nat) (t : Addr) (d : DD), rs[j]? = some t -> ds[j]? = some d -> DeedAt H t d
theorem DeedsAt.up {H H' : Hp} {l : Addr} {rs : List Addr} {ds : List DD} (G : DeedsAt H l rs ds) (s : Same H H') : DeedsAt H' l rs ds := ⟨s _ _ G.top, G.len, fun j t d h1 h2 => (G.each j t d h1 h2).up s⟩
theorem DeedsAt.hd {H : Hp} {l : Addr} {rs : List Addr} {ds : List DD} (G : DeedsAt H l rs ds) : ∀ d ∈ ds, HdD d := fun d hd => by
  obtain ⟨j, hj⟩ := List.mem_iff_getElem?.mp hd; have hl : j < rs.length := by rw [G.len]; exact (List.getElem?_eq_some_iff.mp hj).1
  exact (G.each j _ d (List.getElem?_eq_getElem hl) hj).hd
def AnsAt (H : Hp) (v : V) : Ans -> Prop
  | .tx t => v = vT t
  | .pr i n => ∃ p, v = .ref p /\ H p = some (.tup [vN i, vN n])
  | .nt => v = .str "no tree"
  | .nk => v = .str "no kind"
def TldAt (H : Hp) (v : V) : Ans -> Prop
  | .tx t => v = vT t
  | .pr i n => ∃ p, v = .ref p /\ H p = some (.tup [vN i, vN n])
  | .nt => ∃ p, v = .ref p /\ H p = some (.tup [.str "refused", .str "no tree"])
  | .nk => ∃ p, v = .ref p /\ H p = some (.tup [.str "refused", .str "no kind"])
theorem AnsAt.up {H H' : Hp} {v : V} (s : ∀ p xs, H p = some (.tup xs) -> H' p = some (.tup xs)) : ∀ {a : Ans}, AnsAt H v a -> AnsAt H' v a
  | .tx t, h => h
  | .pr i n, ⟨p, h1, h2⟩ => ⟨p, h1, s _ _ h2⟩
  | .nt, h => h
  | .nk, h => h
theorem TldAt.up {H H' : Hp} {v : V} (s : ∀ p xs, H p = some (.tup xs) -> H' p = some (.tup xs)) : ∀ {a : Ans}, TldAt H v a -> TldAt H' v a
  | .tx t, h => h
  | .pr i n, ⟨p, h1, h2⟩ => ⟨p, h1, s _ _ h2⟩
  | .nt, ⟨p, h1, h2⟩ => ⟨p, h1, s _ _ h2⟩
  | .nk, ⟨p, h1, h2⟩ => ⟨p, h1, s _ _ h2⟩
inductive spInitB (C : Addr) (vs : (List V)) (H : Hp) (Q : VK) (e_ : XK) : Prop
  | mk (b dx : Addr) (z1_ : vs = [.ref b]) (z2_ : H b = some (.ins C dx [])) (z3_ : ∀ (dn lf lc : Addr) (H' : Hp), SameX [b] H H' -> H dn = none -> H lf = none -> H lc = none -> BookAt C H' b dn lf lc ([], []) -> Q .non H') : spInitB C vs H Q e_
inductive spOneMore (C : Addr) (vs : (List V)) (H : Hp) (Q : VK) (e_ : XK) : Prop
  | mk (b dn lf lc : Addr) (s : Sb) (x : Kd) (z1_ : vs = [.ref b, .str (told x.1), vT x.2]) (z2_ : BookAt C H b dn lf lc s) (z3_ : s.1.length <= 100) (z4_ : ∀ (p : Addr) (H' : Hp), SameX [dn, lf, lc] H H' -> BookAt C H' b dn lf lc (bkK s.1 x, bkT s.1 s.2 x) -> H' p = some (.tup [vN (s.1.idxOf x), vN (bkN s.1 s.2 x)]) -> Q (.ref p) H') : spOneMore C vs H Q e_
inductive spTreeM (C CN : Addr) (k : Bool) (vs : (List V)) (H : Hp) (Q : VK) (E : XK) : Prop
  | mk (b dn lf lc : Addr) (s : Sb) (v : V) (o : Option Tx) (z1_ : vs = [.ref b, v]) (z2_ : BookAt C H b dn lf lc s) (z3_ : s.1.length <= 100) (z4_ : ArgAt false H v o k) (z5_ : (∀ x, o = some x -> ∀ (p : Addr) (H' : Hp), SameX [dn, lf, lc] H H' -> BookAt C H' b dn lf lc (bkK s.1 (k, x), bkT s.1 s.2 (k, x)) -> H' p = some (.tup [vN (s.1.idxOf (k, x)), vN (bkN s.1 s.2 (k, x))]) -> Q (.ref p) H')) (z6_ : (o = none -> ∀ H', Same H H' -> E (.ref CN) none H')) : spTreeM C CN k vs H Q E
inductive spFormM (C CK : Addr) (vs : (List V)) (H : Hp) (Q : VK) (E : XK) : Prop
  | mk (b dn lf lc : Addr) (s : Sb) (i : Int) (z1_ : vs = [.ref b, .int i]) (z2_ : BookAt C H b dn lf lc s) (z3_ : s.1.length <= 100) (z4_ : (¬ (i < 0 \/ (s.1.length : Int) <= i) -> ∀ H', Same H H' -> Q (vT (s.1.getD i.toNat (true, [])).2) H')) (z5_ : ((i < 0 \/ (s.1.length : Int) <= i) -> ∀ H', Same H H' -> E (.ref CK) none H')) : spFormM C CK vs H Q E
inductive spAnswer (C : Addr) (vs : (List V)) (H : Hp) (Q : VK) (e_ : XK) : Prop
  | mk (b dn lf lc t : Addr) (s : Sb) (d : DD) (z1_ : vs = [.ref b, .ref t]) (z2_ : BookAt C H b dn lf lc s) (z3_ : s.1.length <= 100) (z4_ : DeedAt H t d) (z5_ : ∀ (v : V) (H' : Hp), SameX [dn, lf, lc] H H' -> BookAt C H' b dn lf lc (stp s d) -> AnsAt H' v (ans s d) -> Q v H') : spAnswer C vs H Q e_
inductive spAnswers (vs : (List V)) (H : Hp) (Q : VK) (e_ : XK) : Prop
  | mk (l : Addr) (rs : List Addr) (ds : List DD) (z1_ : vs = [.ref l]) (z2_ : DeedsAt H l rs ds) (z3_ : ds.length <= 60) (z4_ : ∀ (p : Addr) (ys : List V) (H' : Hp), Same H H' -> H' p = some (.lst ys) -> ys.length = ds.length -> (∀ (j : Nat) (v : V) (d : DD), ys[j]? = some v -> ds[j]? = some d -> AnsAt H' v (ans (sAt ds j) d)) -> Q (.ref p) H') : spAnswers vs H Q e_
inductive spToldBy (C : Addr) (vs : (List V)) (H : Hp) (Q : VK) (e_ : XK) : Prop
  | mk (b dn lf lc t : Addr) (s : Sb) (d : DD) (z1_ : vs = [.ref b, .ref t]) (z2_ : BookAt C H b dn lf lc s) (z3_ : s.1.length <= 100) (z4_ : DeedAt H t d) (z5_ : ∀ (v : V) (H' : Hp), SameX [dn, lf, lc] H H' -> BookAt C H' b dn lf lc (stp s d) -> TldAt H' v (ans s d) -> Q v H') : spToldBy C vs H Q e_
inductive spFormFor (vs : (List V)) (H : Hp) (Q : VK) (e_ : XK) : Prop
  | mk (t : Addr) (b : Bool) (o : Option Tx) (z1_ : vs = [.ref t]) (z2_ : DeedAt H t (.tr b o)) (z3_ : ∀ H', Same H H' -> Q (match o with | none => .non | some x => vT x) H') : spFormFor vs H Q e_
inductive spDueOf (vs : (List V)) (H : Hp) (Q : VK) (e_ : XK) : Prop
  | mk (kl tl t : Addr) (rs : List Addr) (s : Sb) (d : DD) (z1_ : vs = [.ref kl, .ref tl, .ref t]) (z2_ : TupsAt H kl rs (s.1.map pairB)) (z3_ : H tl = some (.lst (s.2.map vN))) (z4_ : kl ≠ tl) (z5_ : s.2.length = s.1.length) (z6_ : s.1.length <= 100) (z7_ : DeedAt H t d) (z8_ : ∀ (v : V) (rs' : List Addr) (H' : Hp), SameX [kl, tl] H H' -> TupsAt H' kl rs' ((stp s d).1.map pairB) -> H' tl = some (.lst ((stp s d).2.map vN)) -> AnsAt H' v (ans s d) -> Q v H') : spDueOf vs H Q e_
inductive spAlikeA (vs : (List V)) (H : Hp) (Q : VK) (e_ : XK) : Prop
  | mk (u v : V) (a : Ans) (z1_ : vs = [u, v]) (z2_ : AnsAt H u a) (z3_ : AnsAt H v a) (z4_ : ∀ H', Same H H' -> Q (.bl true) H') : spAlikeA vs H Q e_
inductive spHandIs (vs : (List V)) (H : Hp) (Q : VK) (e_ : XK) : Prop
  | mk (u v : V) (a : Ans) (z1_ : vs = [u, v]) (z2_ : TldAt H u a) (z3_ : AnsAt H v a) (z4_ : HdA a) (z5_ : ∀ H', Same H H' -> Q (.bl true) H') : spHandIs vs H Q e_
inductive spDeeds (vs : (List V)) (H : Hp) (Q : VK) (e_ : XK) : Prop
  | mk (c : Addr) (ns : List Int) (z1_ : vs = [.ref c]) (z2_ : H c = some (.lst (ns.map V.int))) (z3_ : ns.length <= 60) (z4_ : ∀ (l : Addr) (rs : List Addr) (ds : List DD) (H' : Hp), Same H H' -> DeedsAt H' l rs ds -> ds.length <= 21 -> 0 < ds.length -> Q (.ref l) H') : spDeeds vs H Q e_
mutual
inductive Nst (H : Hp) : Nat -> V -> Prop where
  | non : Nst H 1 .non
  | int (i : Int) : Nst H 1 (.int i)
  | str (x : Str) : Nst H 1 (.str x)
  | lst {n : Nat} {a : Addr} {xs : List V} (e : H a = some (.lst xs)) (h : NstL H n xs) : Nst H (n + 1) (.ref a)
  | tup {n : Nat} {a : Addr} {xs : List V} (e : H a = some (.tup xs)) (h : NstL H n xs) : Nst H (n + 1) (.ref a)
inductive NstL (H : Hp) : Nat -> List V -> Prop where
  | nil : NstL H 0 []
  | snoc {n m : Nat} {xs : List V} {x : V} (h : NstL H n xs) (e : Nst H m x) : NstL H (n + m) (xs ++ [x])
end
inductive spLikeN (vs : (List V)) (H : Hp) (Q : VK) (e_ : XK) : Prop
  | mk (a b : Addr) (xs : List V) (n : Nat) (z1_ : vs = [.ref a, .ref b]) (z2_ : H a = some (.lst xs)) (z3_ : H b = some (.lst xs)) (z4_ : NstL H n xs) (z5_ : n <= 5000) (z6_ : ∀ H', Same H H' -> Q (.bl true) H') : spLikeN vs H Q e_
end KD
namespace KD
open PySem L2 KM PyProof.Rows
inductive spLinesOfN (vs : (List V)) (H : Hp) (Q : VK) (e_ : XK) : Prop
  | mk (a b : Addr) (ab : Ab) (ns : List Int) (z1_ : vs = [.ref a, .ref b]) (z2_ : H a = some (.lst (ab.map vO))) (z3_ : H b = some (.lst (ns.map V.int))) (z4_ : Up ab) (z5_ : ab.length <= 100) (z6_ : ns.length <= 100) (z7_ : ∀ (L : Addr) (ps : List Addr) (ls : Ln) (H' : Hp), Same H H' -> H L = none -> LinesAt H' L ps (toL ls) -> FreeOf ab ls -> Q (.ref L) H') : spLinesOfN vs H Q e_
theorem KitM.quiet {P : Program} {w : World} {K : PySem.W.Frag} {mg : Str -> Option Value} {base : Heap} {k : Nat} {C : Addr} {m : Str} {ps : List Str} {sp sp' : Sp} {f : Addr} {fd : FuncData} (G : KitM P w K mg base (CXe P w) k C m ps sp f fd)
    (h : ∀ vs H Q E, sp' vs H Q E -> sp vs H Q E0) : KitM P w K mg base CX0 k C m ps sp' f fd := ⟨G.ok.quiet h, G.bd, G.mt⟩
inductive spTreeMQ (C : Addr) (k : Bool) (vs : (List V)) (H : Hp) (Q : VK) (e_ : XK) : Prop
  | mk (b dn lf lc : Addr) (s : Sb) (v : V) (x : Tx) (z1_ : vs = [.ref b, v]) (z2_ : BookAt C H b dn lf lc s) (z3_ : s.1.length <= 100) (z4_ : ArgAt false H v (some x) k) (z5_ : ∀ (p : Addr) (H' : Hp), SameX [dn, lf, lc] H H' -> BookAt C H' b dn lf lc (bkK s.1 (k, x), bkT s.1 s.2 (k, x)) -> H' p = some (.tup [vN (s.1.idxOf (k, x)), vN (bkN s.1 s.2 (k, x))]) -> Q (.ref p) H') : spTreeMQ C k vs H Q e_
theorem treeM_quiet {C CN : Addr} {k : Bool} : ∀ (vs : List V) (H : Hp) (Q : VK) (E : XK), spTreeMQ C k vs H Q E -> spTreeM C CN k vs H Q E0 := by
  rintro vs H Q E p_
  refine hld fun g_ k_ => ?_; obtain ⟨b, dn, lf, lc, s, v, x, rfl, G, hn, hA, q⟩ := p_; refine k_ ?_; exact ⟨b, dn, lf, lc, s, v, some x, rfl, G, hn, hA, fun y hy => by cases hy; exact q, fun z => nomatch z⟩
inductive spFormMQ (C : Addr) (vs : (List V)) (H : Hp) (Q : VK) (e_ : XK) : Prop
  | mk (b dn lf lc : Addr) (s : Sb) (i : Nat) (z1_ : vs = [.ref b, .int (i : Int)]) (z2_ : BookAt C H b dn lf lc s) (z3_ : s.1.length <= 100) (z4_ : i < s.1.length) (z5_ : ∀ H', Same H H' -> Q (vT (s.1.getD i (true, [])).2) H') : spFormMQ C vs H Q e_
theorem formM_quiet {C CK : Addr} : ∀ (vs : List V) (H : Hp) (Q : VK) (E : XK), spFormMQ C vs H Q E -> spFormM C CK vs H Q E0 := by
  rintro vs H Q E p_
  refine hld fun g_ k_ => ?_; obtain ⟨b, dn, lf, lc, s, i, rfl, G, hn, hi, q⟩ := p_; refine k_ ?_; exact ⟨b, dn, lf, lc, s, _, rfl, G, hn, fun _ H' s' => q H' s', fun z => by omega⟩
def hid (l : Addr) (H : Hp) : Hp := fun a => if a = l then none else H a
theorem hid_of {l a : Addr} {H : Hp} {o : HO} (h : H a = some o) (n : a ≠ l) : hid l H a = some o := by unfold hid; rw [if_neg n]; exact h
theorem hid_same (l : Addr) (H : Hp) : Same (hid l H) H := fun a o h => by
  unfold hid at h
  split at h
  . cases h
  . exact h
theorem hid_up {l : Addr} {H H' : Hp} (s : Same H H') : Same (hid l H) (hid l H') := fun a o h => by
  unfold hid at h ⊢
  split at h
  . cases h
  . rename_i n; rw [if_neg n]; exact s _ _ h
theorem hid_put {l : Addr} {H : Hp} {o : HO} : hid l (upd H l o) = hid l H := funext fun a => by
  unfold hid
  split
  . rfl
  . rename_i n; rw [upd_ne n]
theorem hid_lines {l L : Addr} {H : Hp} {ps : List Addr} {li : LI} {xs : List V} (G : LinesAt H L ps li) (n : L ≠ l) (h : H l = some (.lst xs)) : LinesAt (hid l H) L ps li :=
  ⟨hid_of G.top n, G.len, fun j c ys h1 h2 => hid_of (G.each j c ys h1 h2) (ne_of (G.each j c ys h1 h2) h (fun z => nomatch z)), G.flat⟩
inductive Nst2 (H : Hp) : Nat -> V -> V -> Prop where
  | non : Nst2 H 1 .non .non
  | int (i : Int) : Nst2 H 1 (.int i) (.int i)
  | str (x : Str) : Nst2 H 1 (.str x) (.str x)
  | lst {n : Nat} {a b : Addr} {xs : List V} (e : H a = some (.lst xs)) (e2 : H b = some (.lst xs)) (h : NstL H n xs) : Nst2 H (n + 1) (.ref a) (.ref b)
  | tup {n : Nat} {a b : Addr} {xs : List V} (e : H a = some (.tup xs)) (e2 : H b = some (.tup xs)) (h : NstL H n xs) : Nst2 H (n + 1) (.ref a) (.ref b)
inductive St2 (H : Hp) : Nat -> List V -> List V -> Prop where
  | nil : St2 H 0 [] []
  | snoc {n m : Nat} {us vs : List V} {u v : V} (h : St2 H n us vs) (e : Nst2 H m u v) : St2 H (n + m) (us ++ [u]) (vs ++ [v])
theorem Nst.two {H : Hp} {n : Nat} {v : V} (h : Nst H n v) : Nst2 H n v v := by
  cases h with
  | non => exact .non
  | int i => exact .int i
  | str x => exact .str x
  | lst e h => exact .lst e e h
  | tup e h => exact .tup e e h
theorem Nst2.pos {H : Hp} {n : Nat} {u v : V} (h : Nst2 H n u v) : 0 < n := by cases h <;> omega
theorem St2.app {H : Hp} {m : Nat} {xs : List V} (h : NstL H m xs) : ∀ {n : Nat} {us vs : List V}, St2 H n us vs -> St2 H (n + m) (us ++ xs) (vs ++ xs) := by
  refine NstL.rec (motive_1 := fun _ _ _ => True) (motive_2 := fun m xs _ => ∀ {n : Nat} {us vs : List V}, St2 H n us vs -> St2 H (n + m) (us ++ xs) (vs ++ xs)) True.intro (fun _ => True.intro) (fun _ => True.intro) (fun _ _ _ => True.intro) (fun _ _ _ => True.intro) ?_ ?_ h
  . intro n us vs s
    rw [List.append_nil, List.append_nil]; exact s
  . intro k m xs x h e ih _ n us vs s
    rw [<- List.append_assoc, <- List.append_assoc, <- Nat.add_assoc]; exact .snoc (ih s) e.two
theorem St2.len {H : Hp} : ∀ {n : Nat} {us vs : List V}, St2 H n us vs -> us.length = vs.length /\ us.length <= n
  | _, _, _, .nil => ⟨rfl, Nat.le_refl _⟩
  | _, _, _, .snoc h e => by
    have := h.len; have := e.pos; rw [List.length_append, List.length_append]
    simp only [List.length_singleton]
    omega
theorem NstL.len {H : Hp} {n : Nat} {xs : List V} (h : NstL H n xs) : xs.length <= n := by
  have := (St2.app h .nil).len
  simpa using this.2
theorem nstL_of {H : Hp} {k : Nat} : ∀ (n : Nat) (xs : List V), xs.length = n -> (∀ x ∈ xs, ∃ m, m <= k /\ Nst H m x) -> ∃ m, m <= k * n /\ NstL H m xs
  | 0, xs, hl, _ => by rw [List.length_eq_zero_iff.mp hl]; exact ⟨0, by omega, .nil⟩
  | n + 1, xs, hl, h => by
    have hne : xs ≠ [] := fun z => by rw [z] at hl; cases hl
    have e := List.dropLast_concat_getLast hne; obtain ⟨m, hm, hL⟩ := nstL_of (k := k) n xs.dropLast (by rw [List.length_dropLast]; omega) fun x hx => h x (List.dropLast_subset _ hx)
    obtain ⟨m2, hm2, hx⟩ := h _ (List.getLast_mem hne); refine ⟨m + m2, ?_, ?_⟩
    . rw [Nat.mul_succ]; omega
    . rw [<- e]
      exact .snoc hL hx
theorem nst_pair {H : Hp} {t : Addr} {x y : V} {n m : Nat} (h : H t = some (.tup [x, y])) (hx : Nst H n x) (hy : Nst H m y) : Nst H (n + m + 1) (.ref t) := by
  refine .tup h ?_; have := NstL.snoc (NstL.snoc .nil hx) hy; rw [Nat.zero_add] at this; exact this
theorem RtO.le {g : Bool} {A : AI} {o : Option Tx} (h : RtO g A o) : A.length <= 20 := by
  cases o with
  | none => exact h.1
  | some x =>
    obtain ⟨ab, r, rk, rfl, _, _, hl, _⟩ := h; rw [List.length_map]; exact hl
theorem FrO.le {c : Int} {li : LI} {o : Option Tx} (h : FrO c li o) : li.length <= 20 := by
  cases o with
  | none => exact h.1
  | some x =>
    obtain ⟨n, ls, rfl, rfl, F, _, hl, _⟩ := h; have := (freeL_of F).2
    omega
theorem ArgAt.nst {g : Bool} {H : Hp} {v : V} {o : Option Tx} : ∀ {b : Bool}, ArgAt g H v o b -> ∃ m, m <= 83 /\ Nst H m v
  | true, ⟨a, A, hv, h2, h3⟩ => by
    subst hv
    obtain ⟨m, hm, hL⟩ := nstL_of (H := H) (k := 1) _ (A.map vI) rfl fun x hx => by
      obtain ⟨o, _, rfl⟩ := List.mem_map.mp hx
      cases o with
      | none => exact ⟨1, Nat.le_refl _, .non⟩
      | some i => exact ⟨1, Nat.le_refl _, .int i⟩
    have := h3.le; rw [List.length_map] at hm; exact ⟨_, by omega, .lst h2 hL⟩
  | false, ⟨t, L, ps, c, li, hv, T, h3⟩ => by
    subst hv
    obtain ⟨m, hm, hL⟩ := nstL_of (H := H) (k := 3) _ (ps.map V.ref) rfl fun x hx => by
      obtain ⟨q, hq, rfl⟩ := List.mem_map.mp hx; obtain ⟨j, hj⟩ := List.mem_iff_getElem?.mp hq; have hl := T.ls.len; have hjl := (List.getElem?_eq_some_iff.mp hj).1; rw [List.length_map] at hl; have hy : (li.map vP)[j]? = some (vP (li[j]'(by omega))) := by rw [List.getElem?_map, List.getElem?_eq_getElem (by omega)]; rfl
      exact ⟨3, Nat.le_refl _, nst_pair (n := 1) (m := 1) (T.ls.each j q _ hj hy) (.int _) (.int _)⟩
    have hl := T.ls.len; have := h3.le; rw [List.length_map] at hm hl; exact ⟨1 + (m + 1) + 1, by omega, nst_pair T.tup (.int _) (.lst T.ls.top hL)⟩
theorem DeedAt.nst {H : Hp} {t : Addr} : ∀ {d : DD}, DeedAt H t d -> ∃ m, m <= 90 /\ Nst H m (.ref t)
  | .fo i, h => ⟨3, by omega, nst_pair (n := 1) (m := 1) h (.str _) (.int _)⟩
  | .tr b o, ⟨v, h1, h2⟩ => by
    obtain ⟨m, hm, h⟩ := h2.nst; exact ⟨1 + m + 1, by omega, nst_pair h1 (.str _) h⟩
theorem DeedsAt.nst {H : Hp} {l : Addr} {rs : List Addr} {ds : List DD} (G : DeedsAt H l rs ds) (h : ds.length <= 50) : ∃ m, m <= 5000 /\ NstL H m (rs.map V.ref) := by
  obtain ⟨m, hm, hL⟩ := nstL_of (H := H) (k := 90) _ (rs.map V.ref) rfl fun x hx => by
    obtain ⟨q, hq, rfl⟩ := List.mem_map.mp hx; obtain ⟨j, hj⟩ := List.mem_iff_getElem?.mp hq; have hjl := (List.getElem?_eq_some_iff.mp hj).1; exact (G.each j q _ hj (List.getElem?_eq_getElem (by rw [<- G.len]; exact hjl))).nst
  rw [List.length_map, G.len] at hm; exact ⟨m, by omega, hL⟩
theorem tups_snoc {H : Hp} {p c : Addr} {rs : List Addr} {yss : List (List V)} {ys : List V} (G : TupsAt H p rs yss) (hc : H c = some (.tup ys)) (hf : ys.all flatV = true) : TupsAt (upd H p (.lst (rs.map V.ref ++ [V.ref c]))) p (rs ++ [c]) (yss ++ [ys]) := by
  refine ⟨by rw [upd_same, List.map_append]; rfl, by rw [List.length_append, List.length_append, G.len]; rfl, fun j d zs h1 h2 => ?_, fun zs hz => ?_⟩
  . have key : H d = some (.tup zs) := by
      by_cases hj : j < rs.length
      . rw [List.getElem?_append_left hj] at h1
        rw [List.getElem?_append_left (by rw [<- G.len]; exact hj)] at h2
        exact G.each j d zs h1 h2
      . rw [List.getElem?_append_right (by omega)] at h1
        rw [List.getElem?_append_right (by rw [<- G.len]; omega), <- G.len] at h2
        have h0 := (List.getElem?_eq_some_iff.mp h1).1; rw [List.length_singleton] at h0; rw [show j - rs.length = 0 by omega] at h1 h2
        cases h1
        cases h2
        exact hc
    rw [upd_ne (ne_of key G.top (fun z => nomatch z))]; exact key
  . rcases List.mem_append.mp hz with h | h
    . exact G.flat zs h
    . rw [List.mem_singleton.mp h]; exact hf
theorem tups_upX {D : List Addr} {H H' : Hp} {p : Addr} {rs : List Addr} {yss : List (List V)} (G : TupsAt H p rs yss) (s : SameX D H H') (hp : p ∉ D) (ht : ∀ (c : Addr) (ys : List V), H c = some (.tup ys) -> c ∉ D) : TupsAt H' p rs yss :=
  ⟨s _ _ hp G.top, G.len, fun j c ys h1 h2 => s _ _ (ht _ _ (G.each j c ys h1 h2)) (G.each j c ys h1 h2), G.flat⟩
end KD
namespace KD
open PySem L2 KM PyProof.Rows
structure DeedsH (l : Addr) (H : Hp) (rs : List Addr) (ds : List DD) : Prop where
  len : rs.length = ds.length
  each : ∀ (j : Nat) (t : Addr) (d : DD), rs[j]? = some t -> ds[j]? = some d -> DeedAt (hid l H) t d
theorem DeedsH.up {l : Addr} {H H' : Hp} {rs : List Addr} {ds : List DD} (G : DeedsH l H rs ds) (s : Same H H') : DeedsH l H' rs ds := ⟨G.len, fun j t d h1 h2 => (G.each j t d h1 h2).up (hid_up s)⟩
theorem snoc_at {α β : Type} {P : α -> β -> Prop} {rs : List α} {ds : List β} {t : α} {d : β} (hl : rs.length = ds.length) (h : ∀ (j : Nat) (t : α) (d : β), rs[j]? = some t -> ds[j]? = some d -> P t d) (ht : P t d) :
    ∀ (j : Nat) (t' : α) (d' : β), (rs ++ [t])[j]? = some t' -> (ds ++ [d])[j]? = some d' -> P t' d' := fun j t' d' h1 h2 => by
  by_cases hj : j < rs.length
  . rw [List.getElem?_append_left hj] at h1
    rw [List.getElem?_append_left (by omega)] at h2
    exact h j _ _ h1 h2
  . rw [List.getElem?_append_right (by omega)] at h1
    rw [List.getElem?_append_right (by omega), <- hl] at h2
    have h0 := (List.getElem?_eq_some_iff.mp h1).1; rw [List.length_singleton] at h0; rw [show j - rs.length = 0 by omega] at h1 h2
    cases h1
    cases h2
    exact ht
theorem DeedsH.snoc {l t : Addr} {H : Hp} {rs : List Addr} {ds : List DD} {d : DD} (G : DeedsH l H rs ds) (h : DeedAt (hid l H) t d) (o : HO) : DeedsH l (upd H l o) (rs ++ [t]) (ds ++ [d]) :=
  ⟨by rw [List.length_append, List.length_append, G.len]; rfl, by rw [hid_put]; exact snoc_at (P := fun t d => DeedAt (hid l H) t d) G.len G.each h⟩
theorem cut_any (l : List Int) (lo hi : Option Int) : ∃ cs : List Int, cutV (l.map V.int) lo hi = cs.map V.int /\ cs.length <= l.length := by
  refine ⟨(l.drop (HT.sIx l.length 0 lo)).take (HT.sIx l.length l.length hi - HT.sIx l.length 0 lo), ?_, ?_⟩
  . unfold cutV
    rw [List.length_map, List.map_take, List.map_drop]
  . rw [List.length_take, List.length_drop]
    omega
theorem size3 (n : Nat) : ((n / 3 : Nat) : Int) = Builtin.Range.rangeSize 0 ((n : Int) - 2) 3 := by
  unfold Builtin.Range.rangeSize
  rw [if_pos (by decide)]
  split <;> omega
theorem small3 {n : Nat} (h : n <= 1000) : Builtin.Range.small 0 ((n : Int) - 2) 3 = true := by
  unfold Builtin.Range.small
  rw [<- size3]
  simp only [Builtin.Range.rangeFitsLong, Bool.and_eq_true, Bool.or_eq_true, decide_eq_true_eq, beq_iff_eq, show ((3 : Int) > 0) by decide, if_true]
  omega
theorem long3 (i : Int) : Builtin.divisionGoesByPylong i 3 = false := by
  unfold Builtin.divisionGoesByPylong
  dsimp only
  rw [show decide (((if ((3 : Int) == 0) = true then 0 else (3 : Int).natAbs.log2 / 30 + 1) : Nat) > 300) = false from by decide +kernel]
  rfl
theorem ixN_last {n : Nat} (h : 0 < n) : ixN n (-1) = some (n - 1) := by
  unfold ixN
  rw [if_neg (by omega), if_pos (by omega)]
  congr 1
  omega
end KD
namespace L2
open PySem PySem.Spec PyProof.Rows
theorem for_stepN {lo c : Int} {n : Nat} {g : TG} {tb : TS} {D : Ends} {σ : St} {H : Hp} (Pv : Nat -> St -> Hp -> Prop) (h0 : Pv 0 σ H)
    (hs : ∀ i σ H, i < n -> Pv i σ H -> ∀ N : St -> Hp -> Prop, (∀ σ' H', Pv (i + 1) σ' H' -> N σ' H') -> g (.int (lo + (i : Nat) * c)) σ H fun σ2 H2 => tb { D with nx := N, ct := N, bk := D.nx } σ2 H2) (hd : ∀ σ H, Pv n σ H -> D.nx σ H) :
    ∃ W : Nat -> Nat -> St -> Hp -> Prop, (∃ m, W 0 m σ H) /\ ∀ i m σ H, W i m σ H ->
      ((ItS3 lo c n).stop i H /\ D.nx σ H) \/ ((ItS3 lo c n).go i H /\ ∃ N : St -> Hp -> Prop, (∀ σ' H', N σ' H' -> ∃ m', m' < m /\ W (i + 1) m' σ' H') /\ ∀ x H', (ItS3 lo c n).yld i H x H' -> g x σ H' fun σ2 H2 => tb { D with nx := N, ct := N, bk := D.nx } σ2 H2) :=
  for_step Pv h0 (fun i σ H hi p => hs i σ H hi p _ fun _ _ z => z) hd
end L2
namespace L2
open PySem PySem.Spec PyProof.Rows
abbrev TN := St -> Hp -> Prop
theorem cutS {t u : TS} {D : Ends} {σ : St} {H : Hp} (h : ∀ N : TN, (∀ σ' H', u D σ' H' -> N σ' H') -> t { D with nx := N } σ H) : tSeq t u D σ H := h (u D) fun _ _ z => z
theorem for_rangeN {lo : Int} {n : Nat} {g : TG} {tb : TS} {D : Ends} {σ : St} {H : Hp} (Pv : Nat -> TN) (h0 : Pv 0 σ H)
    (hs : ∀ i σ H, i < n -> Pv i σ H -> ∀ N : TN, (∀ σ' H', Pv (i + 1) σ' H' -> N σ' H') -> g (.int (lo + i)) σ H fun σ2 H2 => tb { D with nx := N, ct := N, bk := D.nx } σ2 H2) (hd : ∀ σ H, Pv n σ H -> D.nx σ H) :
    ∃ W : Nat -> Nat -> TN, (∃ m, W 0 m σ H) /\ ∀ i m σ H, W i m σ H ->
      ((Itr lo n).stop i H /\ D.nx σ H) \/ ((Itr lo n).go i H /\ ∃ N : TN, (∀ σ' H', N σ' H' -> ∃ m', m' < m /\ W (i + 1) m' σ' H') /\ ∀ x H', (Itr lo n).yld i H x H' -> g x σ H' fun σ2 H2 => tb { D with nx := N, ct := N, bk := D.nx } σ2 H2) :=
  for_range Pv h0 (fun i σ H hi p => hs i σ H hi p _ fun _ _ z => z) hd
theorem for_listN {K : PySem.W.Frag} {a : Addr} {xs : List V} {g : TG} {tb : TS} {D : Ends} {σ : St} {H : Hp} (Pv : Nat -> TN) (h0 : Pv 0 σ H) (hl : ∀ i σ H, i <= xs.length -> Pv i σ H -> SqL K H a xs)
    (hs : ∀ i x σ H, xs[i]? = some x -> Pv i σ H -> ∀ N : TN, (∀ σ' H', Pv (i + 1) σ' H' -> N σ' H') -> g x σ H fun σ2 H2 => tb { D with nx := N, ct := N, bk := D.nx } σ2 H2) (hd : ∀ σ H, Pv xs.length σ H -> D.nx σ H) :
    ∃ W : Nat -> Nat -> TN, (∃ m, W 0 m σ H) /\ ∀ i m σ H, W i m σ H ->
      ((Itl K a).stop i H /\ D.nx σ H) \/ ((Itl K a).go i H /\ ∃ N : TN, (∀ σ' H', N σ' H' -> ∃ m', m' < m /\ W (i + 1) m' σ' H') /\ ∀ x H', (Itl K a).yld i H x H' -> g x σ H' fun σ2 H2 => tb { D with nx := N, ct := N, bk := D.nx } σ2 H2) :=
  for_list Pv h0 hl (fun i x σ H hx p => hs i x σ H hx p _ fun _ _ z => z) hd
theorem bl1 {p : List Value -> Prop} (h : ∀ a, p [a]) (us : List Value) (hl : us.length = 1) : p us := by
  obtain ⟨a, rfl⟩ := List.length_eq_one_iff.mp hl; exact h a
theorem bl1s {p : List Value -> Prop} (h : ∀ a, p [a]) (us : List Value) (hl : us.length + 1 = 2) : p us := bl1 h us (Nat.succ.inj hl)
theorem bl2 {p : List Value -> Prop} (h : ∀ a b, p [a, b]) (us : List Value) (hl : us.length = 2) : p us := by
  cases us with
  | nil => cases hl
  | cons a r => exact bl1 (p := fun r => p (a :: r)) (h a) r (Nat.succ.inj hl)
theorem bl3 {p : List Value -> Prop} (h : ∀ a b c, p [a, b, c]) (us : List Value) (hl : us.length = 3) : p us := by
  cases us with
  | nil => cases hl
  | cons a r => exact bl2 (p := fun r => p (a :: r)) (h a) r (Nat.succ.inj hl)
end L2
set_option maxHeartbeats 4000000
namespace K13
open PySem L2 KM KD PyProof.Rows
def top (i : Nat) : Stmt := PySem.Challenge.pw_shapekin_k13_whole_a_book.main.body.getD i (.Pass ⟨0, 0, 0, 0⟩)
abbrev sForm : Stmt := top 7
abbrev sKnotForms : Stmt := top 8
abbrev sOver : Stmt := top 9
abbrev sRoot : Stmt := top 10
abbrev sUnder : Stmt := top 11
abbrev sDown : Stmt := top 12
abbrev sMiddles : Stmt := top 14
abbrev sRootedAt : Stmt := top 15
abbrev sFreeForm : Stmt := top 16
abbrev sFarness : Stmt := top 17
abbrev sHungUp : Stmt := top 18
abbrev sWalked : Stmt := top 19
abbrev sKnotsBeside : Stmt := top 20
abbrev sAnswers : Stmt := top 23
abbrev sAnswer : Stmt := top 24
abbrev sUpto : Stmt := top 26
abbrev sWhole : Stmt := top 27
abbrev sRooted : Stmt := top 28
abbrev sText : Stmt := top 29
abbrev sNearOf : Stmt := top 30
abbrev sBranch : Stmt := top 31
abbrev sFarnessAt : Stmt := top 32
abbrev sMiddlesBy : Stmt := top 33
abbrev sFreeText : Stmt := top 34
abbrev sLinesOf : Stmt := top 35
abbrev sDeeds : Stmt := top 36
abbrev sFormFor : Stmt := top 37
abbrev sDueOf : Stmt := top 38
abbrev sToldBy : Stmt := top 39
abbrev sAlike : Stmt := top 40
abbrev sLike : Stmt := top 41
abbrev sHandIs : Stmt := top 42
abbrev sLaw : Stmt := top 43
abbrev sMInit : Stmt := cbody (top 22) 0
abbrev sMRooted : Stmt := cbody (top 22) 1
abbrev sMFree : Stmt := cbody (top 22) 2
abbrev sMForm : Stmt := cbody (top 22) 3
abbrev sMOneMore : Stmt := cbody (top 22) 4
end K13
namespace K13
open PySem L2 KM KD PyProof.Rows
section
variable {P : Program} {w : World} {K : PySem.W.Frag} {mg : Str -> Option Value} {base : Heap} {f : Addr} {fd : FuncData}
theorem scOver : FnScope ["parts"] ["parts"] (defScope sOver) := ⟨rfl, rfl, rfl, by decide +kernel, rfl, by decide +kernel, by decide +kernel⟩
theorem ok_over (F : Fun K "form_over" "form_over" sOver f fd) (ms : mg "sorted" = none) : FnOk P w K mg base CX0 1 f fd ["parts"] spOver := by
  refine F.ok scOver (fun vs H Q E h => ?_) (fun cdv A outer s H vs Q E hr h => ?_)
  . obtain ⟨p, ts, rfl, _⟩ := h
    rfl
  obtain ⟨p, ts, rfl, hp, h64, hlen, q⟩ := h
  refine ⟨_, pss_one (ps_ret (pe_op op_add_str (pe_op op_add_str pe_str (pe_bm PySem.F.plainAttrs_str PySem.F.slot_str_join PySem.F.type_str_join mt_join pe_str
    (pa_cons (pe_callB call_sortedS rfl ms boot_sorted (pa_cons (pv 0) pa_nil)) pa_nil))) pe_str)), ?_⟩
  rw [<- vT_map] at hp; refine ⟨rfl, _, rfl, p, ts.map mkS, rfl, SqL.of hp, by rw [List.length_map]; exact h64, fun l ss' h1 h2 h3 => ?_⟩
  have es := sorted_is h1 h2; subst es
  have el : (((srt ts).map mkS).map (·.length)).sum = (ts.map (·.length)).sum := by
    rw [len_vT]; exact ((srt_perm ts).map _).sum_nat
  have ef : (mkS (srt ts).flatten).length = (ts.map (·.length)).sum := by rw [mkS_len, srt_len]
  have e0 : (Str.ofString "").length = 0 := by rw [ep]; rfl
  have e1 : (Str.ofString "(").length = 1 := by rw [lp]; rfl
  have e2 : (Str.ofString ")").length = 1 := by rw [rp]; rfl
  refine ⟨_, l, (srt ts).map mkS, rfl, rfl, SqL.of upd_same, ?_, ?_⟩
  . rw [el, e0]
    omega
  rw [join_is]; refine ⟨_, _, rfl, rfl, ?_, _, _, rfl, rfl, ?_, ?_⟩
  . rw [ef, e1]
    exact small (by omega)
  . rw [Str.length_append, ef, e1, e2]
    exact small (by omega)
  rw [brk_is]; exact q _ (same_new h3 _)
theorem scRoot : FnScope ["above", "roots"] ["above"] (defScope sRoot) := ⟨rfl, rfl, rfl, by decide +kernel, rfl, by decide +kernel, by decide +kernel⟩
theorem ndKU : (["knot", "upper"] : List Str).Nodup := by decide +kernel
theorem ok_rootX {C : Addr} (F : Fun K "root_of" "root_of" sRoot f fd) (me : mg "enumerate" = none) (ml : mg "len" = none) (mC : mg "NoTree" = some (.ref C)) (xc : XC K C) : FnOk P w K mg base (CXe P w) 1 f fd ["above"] (spRootX C) := by
  refine F.okX scRoot (fun vs H Q E h => ?_) (fun cdv A outer s H vs Q E hr h => ?_)
  . obtain ⟨a, A1, rfl, _⟩ := h
    rfl
  obtain ⟨a, A1, rfl, ha, hn, q, qe⟩ := h; obtain ⟨ab, hab⟩ : ∃ ab : Ab, ab = A1.map ofI := ⟨_, rfl⟩; have hlab : ab.length = A1.length := by rw [hab, List.length_map]
  refine ⟨_, pss_cons (ps_setComp (N' := ["knot", "upper"]) (js := [none, none]) (i := 1) scRoot.nd rfl (Or.inl rfl) (CompOk.plain rfl (by decide +kernel) (by decide +kernel) rfl (by decide)) rfl (pi_enum rfl me (pa_cons (pv 0) pa_nil))
      (fun _ _ _ _ => pg_tupC (n := 2) rfl (pgs_cons (pg_name (i := 0) ndKU rfl (Or.inl rfl)) (pgs_cons (pg_name (i := 1) ndKU rfl (Or.inl rfl)) pgs_nil))) (fun _ _ _ _ => pif_one (pt_cmp (pc_isN (pv 1)))) (fun _ _ _ _ => pv 0))
    (pss_cons (ps_if (pt_cmpR op_ne (pe_callB call_len_seq rfl ml PySem.boot_len (pa_cons (pv 1) pa_nil)) pe_int (nomark _)) (pss_one (ps_raise xc rfl xraise rfl mC (pa_cons pe_str pa_nil))) pss_nil)
    (pss_one (ps_ret (pe_ix ix_list (pv 1) pe_int (fun _ _ => rfl))))), ?_⟩
  refine ⟨_, rfl, a, rfl, ⟨_, SqL.of ha⟩, fun D hD => ?_⟩; refine ⟨fun i m ys τ H2 => m = ab.length - i /\ i <= ab.length /\ ys = (rootsTo ab i).map vN /\ (∃ o1 o2, τ = [o1, o2]) /\ Same H H2 /\ H2 D = some (.lst ys), ⟨ab.length, by simp, Nat.zero_le _, rfl, ⟨_, _, rfl⟩, same_new hD _, upd_same⟩, ?_⟩
  rintro i m ys τ H2 p_
  refine hld fun g_ k_ => ?_; obtain ⟨rfl, hi, rfl, ⟨o1, o2, rfl⟩, s2, e2⟩ := p_; refine k_ ?_; have hl : (A1.map vI).length = ab.length := by rw [List.length_map, hlab]
  by_cases hlt : i < ab.length
  . refine .inr ⟨⟨_, _, SqL.of (s2 _ _ ha), get_map (List.getElem?_eq_getElem (hlab ▸ hlt))⟩, fun x H' y => ?_⟩
    refine hld fun g_ k_ => ?_; obtain ⟨p, z, rfl, hp, rfl, hz⟩ := y; refine k_ ?_; have ez := hz _ (SqL.of (s2 _ _ ha)); rw [get_map (List.getElem?_eq_getElem (hlab ▸ hlt))] at ez
    cases ez
    refine ⟨p, _, rfl, SqT.of upd_same, rfl, _, _, rfl, _, _, rfl, rfl, _, rfl, _, rfl, ?_⟩; have s3 : Same H (upd H2 p (.tup [.int i, vI A1[i]])) := s2.trans (same_new hp _); have e3 : (upd H2 p (.tup [.int i, vI A1[i]])) D = some (.lst ((rootsTo ab i).map vN)) := by rw [upd_ne (ne_of_none e2 hp)]; exact e2
    have hz := rootsTo_len ab i; have hlA : i < A1.length := hlab ▸ hlt
    cases q' : A1[i] with
    | none =>
      have h0 : ab[i]? = some none := by rw [hab, none_of, List.getElem?_eq_getElem hlA, q']
      rw [q'] at s3 e3; refine iteT ⟨_, rfl, e3, smallt (by rw [List.length_map]; omega), ab.length - (i + 1), by omega, rfl, hlt, ?_, ⟨_, _, rfl⟩, same_upd s3 hD _, upd_same⟩
      rw [rootsTo_hit h0, List.map_append]
      rfl
    | some k =>
      have h0 : ab[i]? ≠ some none := by rw [hab, ne_eq, none_of, List.getElem?_eq_getElem hlA, q']; intro z; cases z
      rw [q'] at s3 e3; refine iteF ⟨ab.length - (i + 1), by omega, rfl, hlt, by rw [rootsTo_miss h0], ⟨_, _, rfl⟩, s3, e3⟩
  . have e : i = ab.length := by omega
    subst e; refine .inl ⟨⟨_, SqL.of (s2 _ _ ha), by rw [hl]; exact Nat.le_refl _⟩, ?_⟩
    refine ⟨_, rfl, D, _, rfl, .inl (SqL.of e2), rfl, _, rfl, ?_⟩
    by_cases hr1 : ∃ r, Root1 A1 r
    . obtain ⟨r, hr1⟩ := hr1
      have hr2 : rootsTo ab ab.length = [r] := roots_one.mpr (by rw [hab]; exact Root1.of.mp hr1)
      rw [hr2] at e2 ⊢; refine iteNS rfl ?_; refine ⟨_, rfl, D, _, _, _, rfl, rfl, SqL.of e2, rfl, ?_⟩; exact q r _ hr1 s2
    . have hz : ¬ V.int ((((rootsTo ab ab.length).map vN).length : Nat) : Int) = V.int 1 := fun z => by
        have z' := V.int.inj z; rw [List.length_map] at z'; obtain ⟨r, e⟩ := List.length_eq_one_iff.mp (show (rootsTo ab ab.length).length = 1 by omega)
        have := roots_one.mp e; rw [hab] at this; exact hr1 ⟨r, Root1.of.mpr this⟩
      rw [decide_eq_false hz]; exact iteT ⟨(by show 1 <= sizeLine; decide), qe hr1 _ s2⟩
theorem scUnder : FnScope ["above", "under", "knot", "upper"] ["above"] (defScope sUnder) := ⟨rfl, rfl, rfl, by decide +kernel, rfl, by decide +kernel, by decide +kernel⟩
structure UnTo (H0 H : Hp) (u : Addr) (as : List Addr) (ab : Ab) (i : Nat) : Prop where
  same : Same H0 H
  top : H u = some (.lst (as.map V.ref))
  len : as.length = ab.length
  nd : as.Nodup
  new : ∀ c ∈ as, H0 c = none
  newu : H0 u = none
  each : ∀ (k : Nat) (c : Addr), as[k]? = some c -> H c = some (.lst ((kidsTo ab k i).map vN))
theorem ndU : (["upper"] : List Str).Nodup := by decide +kernel
theorem ok_underX {C : Addr} (F : Fun K "knots_under" "knots_under" sUnder f fd) (me : mg "enumerate" = none) (ml : mg "len" = none) (mC : mg "NoTree" = some (.ref C)) (xc : XC K C) : FnOk P w K mg base (CXe P w) 1 f fd ["above"] (spUnderX C) := by
  refine F.okX scUnder (fun vs H Q E h => ?_) (fun cdv A outer s H vs Q E hr h => ?_)
  . obtain ⟨a, A1, rfl, _⟩ := h
    rfl
  obtain ⟨a, A1, rfl, ha, hn, q, qe⟩ := h; obtain ⟨ab, hab⟩ : ∃ ab : Ab, ab = A1.map ofI := ⟨_, rfl⟩; have hlab : ab.length = A1.length := by rw [hab, List.length_map]
  refine ⟨_, pss_cons (ps_setComp (N' := ["upper"]) (js := [none]) (i := 1) scUnder.nd rfl (Or.inl rfl) (CompOk.plain rfl (by decide +kernel) (by decide +kernel) rfl (by decide)) rfl (pi_list (pv 0))
      (fun _ _ _ _ => pg_name (i := 0) ndU rfl (Or.inl rfl)) (fun _ _ _ _ => pif_nil) (fun _ _ _ _ => pe_lst pa_nil))
    (pss_cons (ps_for ownX rfl (pi_enum rfl me (pa_cons (pv 0) pa_nil)) (pg_tup rfl (pgs_cons (pg_name (i := 2) scUnder.nd rfl (Or.inl rfl)) (pgs_cons (pg_name (i := 3) scUnder.nd rfl (Or.inl rfl)) pgs_nil)))
      (pss_one (ps_if (pt_cmp (pc_notN (pv 3)))
        (pss_cons (ps_if (PW.pt (pw_or (pt_cmpR op_lt (pv 3) pe_int (nomark _)) (pw_or1 (pt_cmpR op_ge (pv 3) (pe_callB call_len_seq rfl ml PySem.boot_len (pa_cons (pv 0) pa_nil)) (nomark _))))) (pss_one (ps_raise xc rfl xraise rfl mC (pa_cons pe_str pa_nil))) pss_nil)
        (pss_one (ps_expr (pe_bm PySem.F.plainAttrs_list PySem.F.slot_list_append PySem.F.type_list_append mt_append (pe_ix ix_list (pv 1) (pv 3) (fun _ _ => rfl)) (pa_cons (pv 2) pa_nil))))) pss_nil)))
    (pss_one (ps_ret (pv 1)))), ?_⟩
  have hl : (A1.map vI).length = ab.length := by rw [List.length_map, hlab]
  refine ⟨_, rfl, a, rfl, ⟨_, SqL.of ha⟩, ?_⟩
  refine comp_list (xs := A1.map vI) (fun D i ys τ H2 => (∃ o, τ = [o]) /\ ∃ as : List Addr, ys = as.map V.ref /\ as.Nodup /\ Same H H2 /\ H D = none /\ H2 D = some (.lst ys) /\ (∀ c ∈ as, H c = none /\ H2 c = some (.lst []) /\ c ≠ D)) (small (by rw [hl]; omega))
    (fun D hD => ⟨⟨_, rfl⟩, [], rfl, List.nodup_nil, same_new hD _, hD, upd_same, fun c hc => nomatch hc⟩) (fun D i ys τ H2 _ ⟨_, as, _, _, s2, _⟩ => SqL.of (s2 _ _ ha)) ?_ ?_ (fun _ _ _ _ _ h z => h _ _ z) (fun _ _ _ _ h z => ⟨z.1, fun p hp => h _ _ (z.2 p hp)⟩)
  . rintro D i x ys τ H2 hx hy p_
    refine hld fun g_ k_ => ?_; obtain ⟨⟨o, rfl⟩, as, rfl, nd, s2, hD, e2, each⟩ := p_; refine k_ ?_; refine ⟨(by show 0 <= sizeLine; decide), fun p hp => ?_⟩
    have hpD : D ≠ p := ne_of_none e2 hp; refine ⟨by rw [upd_ne hpD]; exact e2, ⟨_, rfl⟩, as ++ [p], by rw [List.map_append]; rfl, ?_, ?_, hD, upd_same, fun c hc => ?_⟩
    . rw [List.nodup_append]
      refine ⟨nd, by simp, fun c hc c' hc' e => ?_⟩
      rw [List.mem_singleton] at hc'; subst hc' e; rw [(each _ hc).2.1] at hp
      cases hp
    . exact same_upd (s2.trans (same_new hp _)) hD _
    . rcases List.mem_append.mp hc with h | h
      . obtain ⟨h1, h2, h3⟩ := each c h
        exact ⟨h1, by rw [upd_ne h3, upd_ne (ne_of_none h2 hp)]; exact h2, h3⟩
      . rw [List.mem_singleton] at h
        subst h; exact ⟨s2.free hp, by rw [upd_ne (Ne.symm hpD), upd_same], Ne.symm hpD⟩
  . rintro D ys τ H2 hy p_
    refine hld fun g_ k_ => ?_; obtain ⟨_, as, rfl, nd, s2, hD, e2, each⟩ := p_; refine k_ ?_; rw [hl, List.length_map] at hy; have U0 : UnTo H H2 D as ab 0 := ⟨s2, e2, hy, nd, fun c hc => (each c hc).1, hD, fun k c h => (each c (List.mem_of_getElem? h)).2.1⟩; refine ⟨_, rfl, a, rfl, ⟨_, SqL.of (s2 _ _ ha)⟩, for_enum (K := K) (a := a) (xs := A1.map vI) (fun i σ H3 => (∃ o1 o2, σ = [some (.ref a), some (.ref D), o1, o2]) /\ (∀ (j : Nat) (z : Int), j < i -> A1[j]? = some (some z) -> 0 <= z /\ z < A1.length) /\ UnTo H H3 D as ab i) ⟨⟨_, _, rfl⟩, (fun j z h => absurd h (Nat.not_lt_zero _)), U0⟩ (fun i σ H3 _ ⟨_, _, U⟩ => SqL.of (U.same _ _ ha)) ?_ ?_⟩
    . rintro i x p σ H3 hx p_ hp
      refine hld fun g_ k_ => ?_; obtain ⟨⟨o1, o2, rfl⟩, hin, U⟩ := p_; refine k_ ?_; obtain ⟨o, hoA, rfl⟩ := of_map hx; have ho : ab[i]? = some (ofI o) := by rw [hab, List.getElem?_map, hoA]; rfl
      have hil : i < ab.length := (List.getElem?_eq_some_iff.mp ho).1; have one : (1 : Nat) <= sizeLine := by decide
      refine ⟨p, _, rfl, SqT.of upd_same, rfl, _, _, rfl, _, _, rfl, rfl, _, rfl, _, rfl, ?_⟩; have up : ∀ b u, H3 b = some u -> (upd H3 p (.tup [.int i, vI o])) b = some u := same_new hp _
      cases o with
      | none =>
        refine iteF ⟨⟨_, _, rfl⟩, (fun j z hj hz => (Nat.lt_succ_iff_lt_or_eq.mp hj).elim (fun hj => hin j z hj hz) fun e => by rw [e, hoA] at hz; cases hz), U.same.trans up, up _ _ U.top, U.len, U.nd, U.new, U.newu, fun k c h => ?_⟩
        rw [kidsTo_miss (by rw [ho]; intro z; cases z)]
        exact up _ _ (U.each k c h)
      | some z =>
        refine iteT ?_; refine ⟨_, rfl, _, _, rfl, rfl, _, rfl, ?_⟩
        by_cases hz0 : z < 0
        . rw [decide_eq_true hz0]
          exact iteT (iteT ⟨one, qe (fun hI => absurd (hI i z hoA).1 (by omega)) _ (U.same.trans up)⟩)
        rw [decide_eq_false hz0]; refine iteF ⟨_, rfl, _, rfl, a, _, rfl, .inl (SqL.of (up _ _ (U.same _ _ ha))), _, _, rfl, rfl, _, rfl, ?_⟩
        by_cases hzn : ((((A1.map vI).length : Nat) : Int) <= z)
        . rw [decide_eq_true hzn]
          exact iteT ⟨one, qe (fun hI => absurd (hI i z hoA).2 (by rw [List.length_map] at hzn; omega)) _ (U.same.trans up)⟩
        rw [decide_eq_false hzn]; refine iteF ?_; obtain ⟨k, rfl⟩ := Int.eq_ofNat_of_zero_le (show 0 <= z by omega)
        rw [hl] at hzn; have hk : k < ab.length := by omega
        have hka : k < as.length := by rw [U.len]; exact hk
        have ho : ab[i]? = some (some k) := ho; have hc : as[k]? = some as[k] := List.getElem?_eq_getElem hka; have ec := U.each k _ hc; refine ⟨_, rfl, _, rfl, D, _, _, _, rfl, rfl, SqL.of (up _ _ U.top), at_map hc, .inl ⟨rfl, _, SqL.of (up _ _ ec)⟩, _, rfl, as[k], _, _, rfl, rfl, up _ _ ec, ?_, ?_⟩
        . have := kidsTo_len ab k i
          rw [List.length_map]; exact smallt (by omega)
        have hcn : H as[k] = none := U.new _ (List.getElem_mem hka)
        have hcD : D ≠ as[k] := ne_of U.top ec (by
          intro z; have z' := HO.lst.inj z; have l1 := congrArg List.length z'; rw [List.length_map, List.length_map, U.len] at l1
          cases q1 : as with
          | nil => rw [q1] at hka; simp at hka
          | cons c0 r0 =>
            rw [q1, List.map_cons] at z'
            cases q2 : kidsTo ab k i with
            | nil => rw [q2] at z'; cases z'
            | cons d0 s0 => rw [q2, List.map_cons] at z'; cases z')
        refine ⟨⟨_, _, rfl⟩, (fun j z hj hz => (Nat.lt_succ_iff_lt_or_eq.mp hj).elim (fun hj => hin j z hj hz) fun e => by rw [e, hoA] at hz; cases hz; constructor <;> omega), same_upd (U.same.trans up) hcn _, by rw [upd_ne hcD]; exact up _ _ U.top, U.len, U.nd, U.new, U.newu, fun k' c' h => ?_⟩
        by_cases e : k' = k
        . subst e
          rw [hc] at h
          cases h
          rw [upd_same, kidsTo_hit ho, List.map_append]
          rfl
        . have hne : c' ≠ as[k] := by
            intro z; obtain ⟨h1, e1⟩ := List.getElem?_eq_some_iff.mp h; exact e ((List.getElem_inj U.nd).mp (e1.trans z))
          rw [upd_ne hne, kidsTo_miss (by rw [ho]; intro z; exact e (Option.some.inj (Option.some.inj z)).symm)]
          exact up _ _ (U.each k' c' h)
    . rintro σ H3 p_
      refine hld fun g_ k_ => ?_; obtain ⟨⟨o1, o2, rfl⟩, hin, U⟩ := p_; refine k_ ?_; rw [hl] at U hin; have hI : InR A1 := fun j z h => hin j z (by rw [hlab]; exact (List.getElem?_eq_some_iff.mp h).1) h
      exact ⟨_, rfl, q hI D as H3 U.same (by rw [<- hab]; exact ⟨U.top, U.len, fun i c h => by rw [<- kidsTo_all]; exact U.each i c h⟩)⟩
theorem scDown : FnScope ["root", "under", "order", "place"] ["root", "under"] (defScope sDown) := ⟨rfl, rfl, rfl, by decide +kernel, rfl, by decide +kernel, by decide +kernel⟩
theorem ok_downK (F : Fun K "downward" "downward" sDown f fd) (ml : mg "len" = none) : FnOk P w K mg base CX0 1 f fd ["root", "under"] spDownK := by
  refine F.ok scDown (fun vs H Q E h => ?_) (fun cdv A outer s H vs Q E hr h => ?_)
  . obtain ⟨u, as, ab, kd, r, rfl, _⟩ := h
    rfl
  obtain ⟨u, as, ab, kd, r, rfl, U, hkd, T, hn, q⟩ := h
  refine ⟨_, pss_cons (ps_set (i := 2) scDown.nd rfl (Or.inl rfl) (pe_lst (pa_cons (pv 0) pa_nil)))
    (pss_cons (ps_set (i := 3) scDown.nd rfl (Or.inl rfl) pe_int)
    (pss_cons (ps_while PassesOwn.never (pt_cmpR op_lt (pv 3) (pe_callB call_len_seq rfl ml PySem.boot_len (pa_cons (pv 2) pa_nil)) (nomark _))
      (pss_cons (ps_expr (pe_bm PySem.F.plainAttrs_list PySem.F.slot_list_extend PySem.F.type_list_extend mt_extend (pv 2) (pa_cons (pe_ix ix_list (pv 1) (pe_ix ix_list (pv 2) (pv 3) (fun _ _ => rfl)) (fun _ _ => rfl)) pa_nil)))
      (pss_one (ps_set (i := 3) scDown.nd rfl (Or.inl rfl) (pe_op op_add (pv 3) pe_int)))))
    (pss_one (ps_ret (pv 2))))), ?_⟩
  refine ⟨_, rfl, (by show 1 <= sizeLine; decide), fun o ho => ?_⟩
  refine while_by (fun σ H2 => ∃ (ord : List Nat) (pl : Nat), σ = [some (vN r), some (.ref u), some (.ref o), some (vN pl)] /\ Same H H2 /\ H2 o = some (.lst (ord.map vN)) /\ BfsK ab kd r ord pl)
    (fun σ _ => match σ with | [_, _, _, some (.int z)] => ab.length - z.toNat | _ => 0) ⟨[r], 0, rfl, same_new ho _, upd_same, bfsK0 T⟩ ?_ ?_
  . rintro σ H2 p_
    refine hld fun g_ k_ => ?_; obtain ⟨ord, pl, rfl, s2, e2, B⟩ := p_; refine k_ ?_; refine ⟨_, rfl, _, rfl, o, _, rfl, .inl (SqL.of e2), _, _, rfl, rfl, _, rfl, ?_⟩; have hl : (ord.map vN).length = ord.length := List.length_map _; refine ite2 (fun c => ?_) (fun c => ?_)
    . have c' := of_decide_eq_true c
      rw [hl] at c'; have hp : pl < ord.length := by omega
      have hk : ord[pl]? = some ord[pl] := List.getElem?_eq_getElem hp; have hkl : ord[pl] < ab.length := B.lt _ (List.getElem_mem hp); have hka : ord[pl] < as.length := by rw [U.len]; exact hkl
      have hc : as[ord[pl]]? = some as[ord[pl]] := List.getElem?_eq_getElem hka; have ec := s2 _ _ (U.each _ _ hc); have B' := B.step T hkd hk; have hbl := B'.len; have hbl0 := B.len; refine ⟨_, rfl, .inl ⟨rfl, _, SqL.of e2⟩, _, rfl, _, rfl, _, rfl, o, _, _, _, rfl, rfl, SqL.of e2, at_map hk, u, _, _, _, rfl, rfl, SqL.of (s2 _ _ U.top), at_map hc, o, as[ord[pl]], _, _, rfl, rfl, e2, ec, ?_, ?_⟩
      . rw [List.length_map, List.length_map, <- List.length_append]
        exact small (by omega)
      refine ⟨_, rfl, _, _, rfl, rfl, ?_⟩; refine ⟨⟨ord ++ kd ord[pl], pl + 1, ?_, same_upd s2 ho _, ?_, B'⟩, ?_⟩
      . have e : ((pl : Nat) : Int) + 1 = ((pl + 1 : Nat) : Int) := by omega
        show [some (vN r), some (V.ref u), some (V.ref o), some (V.int ((pl : Int) + 1))] = _
        rw [e]
        rfl
      . rw [upd_same, List.map_append]
      . show ab.length - ((pl : Int) + 1).toNat < ab.length - (pl : Int).toNat
        omega
    . have c' := of_decide_eq_false (Bool.eq_false_iff.mpr c)
      rw [hl] at c'; have hp : pl = ord.length := by have := B.le; omega
      subst hp; exact ⟨_, rfl, q o ord H2 s2 e2 B⟩
  . rintro σ H2 Q1 Q2 hQ p_
    refine hld fun g_ k_ => ?_; obtain ⟨v1, h1, v2, h2, p2, ys, e1, e2, i, j, e3, e4, k, e5, h⟩ := p_; refine k_ ?_; exact ⟨v1, h1, v2, h2, p2, ys, e1, e2, i, j, e3, e4, k, e5, hQ _ _ h⟩
theorem scKnots : FnScope ["above", "marked", "root", "under", "order", "forms", "knot", "parts"] ["above", "marked"] (defScope sKnotForms) := ⟨rfl, rfl, rfl, by decide +kernel, rfl, by decide +kernel, by decide +kernel⟩
theorem ndPF : (["part", "forms"] : List Str).Nodup := by decide +kernel
theorem ok_knots {C f1 f2 f3 f4 : Addr} {d1 d2 d3 d4 : FuncData} {tk : Tok} (F : FunD K "knot_forms" "knot_forms" sKnotForms f fd) (GO : Kit P w K mg base 1 "form_over" ["parts"] spOver f1 d1) (GR : KitE P w K mg base 1 "root_of" ["above"] (spRootX C) f2 d2)
    (GU : KitE P w K mg base 1 "knots_under" ["above"] (spUnderX C) f3 d3) (GD : Kit P w K mg base 1 "downward" ["root", "under"] spDownK f4 d4) (ml : mg "len" = none) (mr : mg "reversed" = none) (mC : mg "NoTree" = some (.ref C)) (xc : XC K C)
    (mM : mg "MARK" = some (.str (Str.ofString "*") tk)) : FnOk P w K mg base (CXe P w) 2 f fd ["above", "marked"] (spKnots C) := by
  refine F.okX scKnots (fun vs H Q E h => ?_) (fun cdv A outer s H vs Q E hr h => ?_)
  . obtain ⟨a, A1, m, rfl, _⟩ := h
    rfl
  obtain ⟨a, A1, m, rfl, ha, hn, q, qe⟩ := h; obtain ⟨ab, hab⟩ : ∃ ab : Ab, ab = A1.map ofI := ⟨_, rfl⟩; have hlab : ab.length = A1.length := by rw [hab, List.length_map]
  refine ⟨_, pss_cons (ps_set (i := 2) scKnots.nd rfl (Or.inl rfl) (pe_call GR.ok hr rfl GR.mg GR.kp GR.bd .nil passX (pa_cons (pv 0) pa_nil)))
    (pss_cons (ps_set (i := 3) scKnots.nd rfl (Or.inl rfl) (pe_call GU.ok hr rfl GU.mg GU.kp GU.bd .nil passX (pa_cons (pv 0) pa_nil)))
    (pss_cons (ps_set (i := 4) scKnots.nd rfl (Or.inl rfl) (pe_call GD.ok hr rfl GD.mg GD.kp GD.bd .nil pass0 (pa_cons (pv 2) (pa_cons (pv 3) pa_nil))))
    (pss_cons (ps_if (pt_cmpR op_ne (pe_callB call_len_seq rfl ml PySem.boot_len (pa_cons (pv 4) pa_nil)) (pe_callB call_len_seq rfl ml PySem.boot_len (pa_cons (pv 0) pa_nil)) (nomark _)) (pss_one (ps_raise xc rfl xraise rfl mC (pa_cons pe_str pa_nil))) pss_nil)
    (pss_cons (ps_set (i := 5) scKnots.nd rfl (Or.inr rfl) (pe_op op_rep (pe_lst (pa_cons pe_str pa_nil)) (pe_callB call_len_seq rfl ml PySem.boot_len (pa_cons (pv 0) pa_nil))))
    (pss_cons (ps_for ownX rfl (pi_rev rfl mr (pa_cons (pv 4) pa_nil)) (pg_name (i := 6) scKnots.nd rfl (Or.inl rfl))
      (pss_cons (ps_setComp (N' := ["part", "forms"]) (js := [none, some 5]) (i := 7) scKnots.nd rfl (Or.inl rfl)
          (CompOk.free1 (x := "forms") (nms := [(".0", .local), ("part", .local), ("forms", .cell)]) rfl (by decide +kernel) (by decide +kernel) rfl rfl rfl rfl (by decide +kernel) (by
            intro j i h
            match j, h with
            | 0, h => cases h
            | 1, h => cases h; exact ⟨rfl, rfl⟩) rfl (Or.inl rfl)) rfl
          (pi_list (pe_ix ix_list (pv 3) (pv 6) (fun _ _ => rfl))) (fun _ _ _ _ => pg_name (i := 0) ndPF rfl (Or.inl rfl)) (fun _ _ _ _ => pif_nil) (fun _ _ _ _ => pe_ix ix_listC (pv 1) (pv 0) (fun _ _ => rfl)))
      (pss_cons (ps_if (pt_cmpR op_eq (pv 6) (pv 1) (nomark _)) (pss_one (ps_expr (pe_bm PySem.F.plainAttrs_list PySem.F.slot_list_append PySem.F.type_list_append mt_append (pv 7) (pa_cons (pe_glob (v := .str (Str.ofString "*")) rfl mM ⟨tk, rfl⟩) pa_nil)))) pss_nil)
      (pss_one (ps_asg (pe_call GO.ok hr rfl GO.mg GO.kp GO.bd .nil pass0 (pa_cons (pv 7) pa_nil)) (pg_sub (pv 5) (pv 6) set_list))))))
    (pss_one (ps_ret (pv 5)))))))), ?_⟩
  refine ⟨_, rfl, a, A1, rfl, ha, by omega, fun r H1 hr1 s1 => ?_, fun h H1 s1 => qe (fun z => h z.root) _ s1⟩
  refine ⟨_, rfl, a, A1, rfl, s1 _ _ ha, by omega, fun hI u as H2 s2 U => ?_, fun h H2 s2 => qe (fun z => h z.inR) _ (s1.trans s2)⟩
  rw [<- hab] at U; have hrt := Root1.of.mp hr1; rw [<- hab] at hrt; refine ⟨_, rfl, _, rfl, u, as, ab, kids ab, r, rfl, U.lists, fun _ _ => .refl _, hrt.1, by omega, fun o ord H3 s3 eo BK => ?_⟩
  have B := BK.bfs; have s03 : Same H H3 := s1.trans (s2.trans s3); have ha3 := s03 _ _ ha; have hl : (A1.map vI).length = ab.length := by rw [List.length_map, hlab]
  have hlo : (ord.map vN).length = ord.length := List.length_map _; refine ⟨_, rfl, o, _, rfl, .inl (SqL.of eo), _, rfl, a, _, rfl, .inl (SqL.of ha3), rfl, _, rfl, ?_⟩
  by_cases hw : ord.length = ab.length
  case neg =>
    have hz : ¬ V.int (((ord.map vN).length : Nat) : Int) = V.int (((A1.map vI).length : Nat) : Int) := fun z => by
      have z' := V.int.inj z; rw [hlo, hl] at z'
      omega
    rw [decide_eq_false hz]; refine iteT ⟨(by show 1 <= sizeLine; decide), qe (fun z => ?_) _ s03⟩
    obtain ⟨rk, T⟩ := z.tree hr1; rw [<- hab] at T; exact hw (B.whole T)
  have T := B.tree hrt.1 hrt.2 (by rw [hab]; exact hI.par) hw
  generalize (fun k => ord.idxOf k) = rk at T; refine iteNS (by rw [hlo, hl, hw]) ?_
  refine ⟨(by show 1 <= sizeLine; decide), fun e he => ?_⟩
  have s4 : Same H3 (upd H3 e (.lst [.str (Str.ofString "")])) := same_new he _; refine ⟨_, rfl, a, _, rfl, .inl (SqL.of (s4 _ _ ha3)), e, _, _, rfl, rfl, upd_same, by omega, by rw [hl]; omega, ?_, fun fs hfs => ?_⟩
  . show 1 * _ <= sizeLine
    rw [hl]; exact small (by omega)
  have hrep : (List.replicate (((A1.map vI).length : Nat) : Int).toNat [V.str (Str.ofString "")]).flatten = (List.replicate ab.length ([] : Tx)).map vT := by
    rw [hl, Int.toNat_natCast, List.map_replicate]; have ee : V.str (Str.ofString "") = vT [] := by rw [ep]; rfl
    rw [ee]
    induction ab.length with
    | zero => rfl
    | succ n ih => rw [List.replicate_succ, List.flatten_cons, ih, List.replicate_succ]; rfl
  have hfs3 : H3 fs = none := s4.free hfs
  have F0 : FilledM ab m ord (List.replicate ab.length ([] : Tx)) 0 := ⟨List.length_replicate, fun j k hj hk => by
    have := (List.getElem?_eq_some_iff.mp hk).1
    omega⟩
  refine ⟨_, rfl, o, _, rfl, SqL.of ((s4.trans (same_new hfs _)) _ _ eo), for_rev (K := K) (a := o) (xs := ord.map vN) (fun i σ H4 => ∃ (kn pt : Option V) (ts : List Tx), σ = [some (.ref a), some (vO m), some (vN r), some (.ref u), some (.ref o), some (.ref fs), kn, pt] /\ Same H3 H4 /\ H4 fs = some (.lst (ts.map vT)) /\ FilledM ab m ord ts i)
    ⟨none, none, _, rfl, s4.trans (same_new hfs _), by rw [upd_same, hrep], F0⟩ (fun i σ H4 _ ⟨_, _, _, _, s5, _⟩ => SqL.of (s5 _ _ eo)) ?_ ?_⟩
  . rintro i x σ H4 hi hx p_
    refine hld fun g_ k_ => ?_; obtain ⟨kn, pt, ts, rfl, s5, ef, Fi⟩ := p_; refine k_ ?_; rw [hlo] at hi; rw [hlo] at hx; obtain ⟨k, hk, rfl⟩ := of_map hx; have hkl : k < ab.length := B.lt k (List.mem_iff_getElem?.mpr ⟨_, hk⟩); have hka : k < as.length := by rw [U.len]; exact hkl
    have hc : as[k]? = some as[k] := List.getElem?_eq_getElem hka; have ec3 := s3 _ _ (U.each k _ hc); have ec := s5 _ _ ec3; have hkids := kids_lt_len hrt.1 k; refine ⟨_, rfl, _, rfl, u, _, _, _, rfl, rfl, SqL.of (s5 _ _ (s3 _ _ U.top)), at_map hc, as[k], rfl, ⟨_, SqL.of ec⟩, ?_⟩
    refine comp_list (xs := (kids ab k).map vN) (fun D j ys τ H5 => (∃ o1, τ = [o1, some (.ref fs)]) /\ ys = ((kids ab k).take j).map (fun c => vT (fmM ab m c)) /\ Same H4 H5 /\ H4 D = none /\ H5 D = some (.lst ys)) (small (by rw [List.length_map]; omega))
      (fun D hD => ⟨⟨_, rfl⟩, rfl, same_new hD _, hD, upd_same⟩) (fun D j ys τ H5 _ ⟨_, _, s6, _⟩ => SqL.of (s6 _ _ ec)) ?_ ?_ (fun _ _ _ _ _ h z => h _ _ z) (fun τ H5 Q1 Q2 h z => ?_)
    . rintro D j x ys τ H5 hx hy p_
      refine hld fun g_ k_ => ?_; obtain ⟨⟨o1, rfl⟩, rfl, s6, hD, e6⟩ := p_; refine k_ ?_; obtain ⟨c, hc', rfl⟩ := of_map hx; have hck : c ∈ kids ab k := List.mem_of_getElem? hc'; have hf := Fi.kid B hi hk hck; refine ⟨_, rfl, _, rfl, fs, _, _, _, rfl, rfl, SqL.of (s6 _ _ ef), at_map hf, e6, ⟨_, rfl⟩, ?_, same_upd s6 hD _, hD, upd_same⟩; rw [List.take_add_one, hc', List.map_append]
      rfl
    . rintro D ys τ H5 hy p_
      refine hld fun g_ k_ => ?_; obtain ⟨_, rfl, s6, hD, e6⟩ := p_; refine k_ ?_; rw [List.length_map, List.take_length] at e6; have hm : (kids ab k).map (fun c => vT (fmM ab m c)) = ((kids ab k).map (fmM ab m)).map vT := by rw [List.map_map]; rfl
      rw [hm] at e6; have hlen := fmM_kids_len ab m k; have h2 : 3 * ab.length * ab.length <= 3 * 64 * 64 := Nat.mul_le_mul (Nat.mul_le_mul (Nat.le_refl _) (by omega)) (by omega)
      have eml : V.str (Str.ofString "*") = vT [42] := rfl; refine ⟨_, rfl, _, rfl, by cases m <;> rfl, _, rfl, ?_⟩
      by_cases hmk : m = some k
      case' pos =>
        have ed : decide (vN k = vO m) = true := by rw [hmk]; exact decide_eq_true rfl
        rw [ed]; refine iteT ⟨_, rfl, .inl ⟨rfl, _, SqL.of e6⟩, D, _, _, rfl, rfl, e6, smallt (by rw [List.length_map, List.length_map]; omega), ?_⟩
        have e7 : (upd H5 D (.lst (((kids ab k).map (fmM ab m)).map vT ++ [V.str (Str.ofString "*")]))) D = some (.lst (((kids ab k).map (fmM ab m) ++ mrk m k).map vT)) := by
          rw [upd_same, List.map_append, hmk, mrk_self]
          rfl
        have s7 : Same H4 (upd H5 D (.lst (((kids ab k).map (fmM ab m)).map vT ++ [V.str (Str.ofString "*")]))) := same_upd s6 hD _
        revert e7 s7
        generalize upd H5 D (.lst (((kids ab k).map (fmM ab m)).map vT ++ [V.str (Str.ofString "*")])) = H6; intro e7 s7
      case' neg =>
        have ed : decide (vN k = vO m) = false := decide_eq_false fun z => by
          cases m with
          | none => cases z
          | some j =>
            have := V.int.inj z; exact hmk (by rw [show j = k by omega])
        rw [ed]; refine iteF ?_
        have e7 : H5 D = some (.lst (((kids ab k).map (fmM ab m) ++ mrk m k).map vT)) := by
          rw [show mrk m k = [] from if_neg hmk, List.append_nil]
          exact e6
        have s7 : Same H4 H5 := s6
        revert e7 s7
        generalize H5 = H6; intro e7 s7
      all_goals
        have hm1 : (mrk m k).length <= 1 := by unfold mrk; split <;> simp
        refine ⟨_, rfl, D, _, rfl, e7, by rw [List.length_append, List.length_map]; omega, ?_, fun H7 s8 => ?_⟩
        . rw [List.map_append, List.sum_append, List.map_map]
          have := mrk_len m k; have e9 : ((kids ab k).map ((fun x => x.length) ∘ fmM ab m)) = (kids ab k).map fun c => (fmM ab m c).length := rfl; rw [e9]
          omega
        refine ⟨_, rfl, _, rfl, fs, _, _, k, rfl, rfl, (s7.trans s8) _ _ ef, ixN_nat (by rw [List.length_map, Fi.len]; exact hkl), ?_⟩
        refine ⟨_, _, _, rfl, same_upd (s5.trans (s7.trans s8)) hfs3 _, ?_, Fi.step T B hi hk⟩; rw [upd_same, List.map_set]
    . obtain ⟨v1, h1, v2, h2, p, xs, i', v, e1, e2, e3, e4, e5⟩ := z
      exact ⟨v1, h1, v2, h2, p, xs, i', v, e1, e2, e3, e4, h _ _ e5⟩
  . rintro σ H4 p_
    refine hld fun g_ k_ => ?_; obtain ⟨kn, pt, ts, rfl, s5, ef, Fi⟩ := p_; refine k_ ?_; rw [hlo] at Fi; rw [Fi.all T B] at ef; exact ⟨_, rfl, q ab r rk fs H4 (by rw [hab]; exact hI.back) T (s03.trans s5) (s03.free hfs3) ef⟩
end
end K13
namespace K13
open PySem L2 KM KD PyProof.Rows
section
variable {P : Program} {w : World} {K : PySem.W.Frag} {mg : Str -> Option Value} {base : Heap} {f : Addr} {fd : FuncData}
theorem scForm : FnScope ["above"] ["above"] (defScope sForm) := ⟨rfl, rfl, rfl, by decide +kernel, rfl, by decide +kernel, by decide +kernel⟩
theorem ok_formX {C f1 f2 : Addr} {d1 d2 : FuncData} (F : Fun K "form_of" "form_of" sForm f fd) (GK : KitD P w K mg base 2 "knot_forms" ["above", "marked"] (spKnots C) f1 d1) (GR : KitE P w K mg base 1 "root_of" ["above"] (spRootX C) f2 d2) : FnOk P w K mg base (CXe P w) 3 f fd ["above"] (spFormX C) := by
  refine F.okX scForm (fun vs H Q E h => ?_) (fun cdv A outer s H vs Q E hr h => ?_)
  . obtain ⟨a, A1, rfl, _⟩ := h
    rfl
  obtain ⟨a, A1, rfl, ha, hn, q, qe⟩ := h; refine ⟨_, pss_one (ps_ret (pe_ix ix_list (pe_call GK.ok hr rfl GK.mg GK.kp GK.bd1 vals_non passX (pa_cons (pv 0) pa_nil)) (pe_call GR.ok (hr.mono (by decide)) rfl GR.mg GR.kp GR.bd .nil passX (pa_cons (pv 0) pa_nil)) (fun _ _ => rfl))), ?_⟩
  refine ⟨_, rfl, a, A1, none, rfl, ha, hn, fun ab r rk p H1 e T s1 hp ep => ?_, qe⟩; have hr1 : Root1 A1 r := Root1.of.mpr (by rw [e, map_back]; exact ⟨T.root, T.only⟩)
  refine ⟨_, rfl, a, A1, rfl, s1 _ _ ha, by omega, fun r' H2 hr2 s2 => ?_, fun h => absurd ⟨r, hr1⟩ h⟩
  have : r' = r := hr1.2 r' hr2.1; subst this; refine ⟨p, _, _, _, rfl, rfl, SqL.of (s2 _ _ ep), at_map (fms_get T.rlt), ?_⟩; rw [fmM_none]; exact q ab r' rk H2 e T (s1.trans s2)
end
end K13
namespace K13
open PySem L2 KM KD PyProof.Rows
section
variable {P : Program} {w : World} {K : PySem.W.Frag} {mg : Str -> Option Value} {base : Heap} {f : Addr} {fd : FuncData}
theorem scUpto : FnScope ["_law_script", "_law_small", "_law_great"] ["_law_script", "_law_small", "_law_great"] (defScope sUpto) := ⟨rfl, rfl, rfl, by decide +kernel, rfl, by decide +kernel, by decide +kernel⟩
theorem ok_upto (F : Fun K "_law_upto" "_law_upto" sUpto f fd) (ml : mg "len" = none) : FnOk P w K mg base CX0 1 f fd ["_law_script", "_law_small", "_law_great"] (spUpto K) := by
  refine F.ok scUpto (fun vs H Q E h => ?_) (fun cdv A outer s H vs Q E hr h => ?_)
  . obtain ⟨a, xs, sm, gr, rfl, _⟩ := h
    rfl
  obtain ⟨a, xs, sm, gr, rfl, ha, hn, q⟩ := h; refine ⟨_, pss_cons (ps_if (pt_cmpR op_gt (pe_callB call_len_seq rfl ml PySem.boot_len (pa_cons (pv 0) pa_nil)) pe_int (nomark _)) (pss_one (ps_ret (pv 2))) pss_nil) (pss_one (ps_ret (pv 1))), ?_⟩; refine ⟨_, rfl, a, _, rfl, .inl ha, _, _, rfl, rfl, _, rfl, ?_⟩; rw [show decide ((63 : Int) < ((xs.length : Nat) : Int)) = false from decide_eq_false (by omega)]
  exact iteF ⟨_, rfl, q _ (Same.refl _)⟩
end
end K13
namespace K13
open PySem L2 KM KD PyProof.Rows
section
variable {P : Program} {w : World} {K : PySem.W.Frag} {mg : Str -> Option Value} {base : Heap} {f : Addr} {fd : FuncData}
theorem scWhole : FnScope ["_law_found"] ["_law_found"] (defScope sWhole) := ⟨rfl, rfl, rfl, by decide +kernel, rfl, by decide +kernel, by decide +kernel⟩
theorem ok_whole (F : Fun K "_law_whole" "_law_whole" sWhole f fd) (mi : mg "isinstance" = none) (mn : mg "int" = none) (mb : mg "bool" = none) : FnOk P w K mg base CX0 1 f fd ["_law_found"] spWhole := by
  refine F.ok scWhole (fun vs H Q E h => ?_) (fun cdv A outer s H vs Q E hr h => ?_)
  . obtain ⟨i, rfl, _⟩ := h
    rfl
  obtain ⟨i, rfl, q⟩ := h
  refine ⟨_, pss_one (ps_ret (pe_and (pe_callB call_isi rfl mi boot_isinstance (pa_cons (pv 0) (pa_cons (pe_bltn (v := .ty "int") rfl mn PyProof.Rows.boot_int rfl) pa_nil)))
    (pe_one (pe_not (pe_callB call_isi rfl mi boot_isinstance (pa_cons (pv 0) (pa_cons (pe_bltn (v := .ty "bool") rfl mb PyProof.Rows.boot_bool rfl) pa_nil))))))), ?_⟩
  refine ⟨_, rfl, _, _, _, _, rfl, TyOf.int i, (show PySem.W.kitOne K (.type "int") (.type "int") = some true from rfl), _, rfl, iteT ?_⟩
  refine ⟨_, rfl, _, _, _, _, rfl, TyOf.int i, (show PySem.W.kitOne K (.type "int") (.type "bool") = some false from rfl), _, rfl, ?_⟩
  exact q _ (Same.refl _)
end
end K13
namespace K13
open PySem L2 KM KD PyProof.Rows
section
variable {P : Program} {w : World} {K : PySem.W.Frag} {mg : Str -> Option Value} {base : Heap} {f : Addr} {fd : FuncData}
theorem scRooted : FnScope ["_law_cells", "_law_above", "_law_way", "_law_k", "_law_cell", "_law_spot", "_law_half", "_law_copy", "_law_one"] ["_law_cells"] (defScope sRooted) := ⟨rfl, rfl, rfl, by decide +kernel, rfl, by decide +kernel, by decide +kernel⟩
theorem cut_take (xs : List V) (k : Nat) : cutV xs none (some (k : Int)) = xs.take k := by
  unfold cutV
  rw [HT.sIx_none, HT.sIx_nat, List.drop_zero, Nat.sub_zero]
  by_cases h : k <= xs.length
  . rw [Nat.min_eq_left h]
  . rw [Nat.min_eq_right (by omega), List.take_length, List.take_of_length_le (by omega)]
theorem spot_ok (c k : Int) (hk : 0 < k) : ∃ j : Int, 0 <= j /\ j < k /\ atI [V.int 0, V.int ((k - 1) / 2), V.int (c / 4 % k), V.int (c / 4 % k)] (c % 4) = some (.int j) := by
  have h0 := Int.emod_nonneg (c / 4) (show k ≠ 0 by omega)
  have h1 := Int.emod_lt_of_pos (c / 4) hk; have hc : c % 4 = ((0 : Nat) : Int) \/ c % 4 = ((1 : Nat) : Int) \/ c % 4 = ((2 : Nat) : Int) \/ c % 4 = ((3 : Nat) : Int) := by omega
  rcases hc with e | e | e | e
  . exact ⟨0, by omega, hk, by rw [e]; exact atI_nat rfl⟩
  . exact ⟨(k - 1) / 2, by omega, by omega, by rw [e]; exact atI_nat rfl⟩
  . exact ⟨c / 4 % k, h0, h1, by rw [e]; exact atI_nat rfl⟩
  . exact ⟨c / 4 % k, h0, h1, by rw [e]; exact atI_nat rfl⟩
theorem snocV (ab : Ab) {j : Int} (h : 0 <= j) : ab.map vO ++ [V.int j] = (ab ++ [some j.toNat]).map vO := by
  rw [List.map_append]; have : V.int j = vO (some j.toNat) := by show V.int j = V.int ((j.toNat : Nat) : Int); rw [Int.toNat_of_nonneg h]
  rw [this]
  rfl
theorem ok_rooted (F : Fun K "_law_rooted" "_law_rooted" sRooted f fd) (ml : mg "len" = none) (mr : mg "range" = none) : FnOk P w K mg base CX0 1 f fd ["_law_cells"] spRooted := by
  refine F.ok scRooted (fun vs H Q E h => ?_) (fun cdv A outer s H vs Q E hr h => ?_)
  . obtain ⟨a, ns, rfl, _⟩ := h
    rfl
  obtain ⟨a, ns, rfl, ha, hn, q⟩ := h
  refine ⟨_, pss_cons (ps_set (i := 1) scRooted.nd rfl (Or.inl rfl) (pe_lst (pa_cons pe_non pa_nil)))
    (pss_cons (ps_set (i := 2) scRooted.nd rfl (Or.inl rfl) (pe_op op_mod (pe_ix ix_list (pe_op op_cat (pv 0) (pe_lst (pa_cons pe_int pa_nil))) pe_int (fun _ _ => rfl)) pe_int))
    (pss_cons (ps_for PassesOwn.never rfl (pi_range2 rfl mr (pa_cons pe_int (pa_cons (pe_op op_add (pe_callB call_len_seq rfl ml PySem.boot_len (pa_cons (pv 0) pa_nil)) pe_int) pa_nil))) (pg_name (i := 3) scRooted.nd rfl (Or.inl rfl))
      (pss_cons (ps_set (i := 4) scRooted.nd rfl (Or.inl rfl) (pe_ix ix_list (pv 0) (pe_op op_sub (pv 3) pe_int) (fun _ _ => rfl)))
      (pss_cons (ps_set (i := 5) scRooted.nd rfl (Or.inl rfl) (pe_ix ix_list (pe_lst (pa_cons pe_int (pa_cons (pe_op op_fdiv (pe_op op_sub (pv 3) pe_int) pe_int) (pa_cons (pe_op op_mod (pe_op op_fdiv (pv 4) pe_int) (pv 3)) (pa_cons (pe_op op_mod (pe_op op_fdiv (pv 4) pe_int) (pv 3)) pa_nil))))) (pe_op op_mod (pv 4) pe_int) (fun _ _ => rfl)))
      (pss_cons (ps_if (pt_cmpR op_eq (pv 2) pe_int (nomark _)) (pss_one (ps_set (i := 5) scRooted.nd rfl (Or.inl rfl) (pe_op op_sub (pv 3) pe_int))) pss_nil)
      (pss_cons (ps_if (pt_cmpR op_eq (pv 2) pe_int (nomark _)) (pss_one (ps_set (i := 5) scRooted.nd rfl (Or.inl rfl) pe_int)) pss_nil)
      (pss_one (ps_expr (pe_bm PySem.F.plainAttrs_list PySem.F.slot_list_append PySem.F.type_list_append mt_append (pv 1) (pa_cons (pv 5) pa_nil)))))))))
    (pss_cons (ps_if (PW.pt (pw_and (pt_cmpR op_eq (pv 2) pe_int (nomark _)) (pw_and1 (pt_cmpR op_gt (pe_callB call_len_seq rfl ml PySem.boot_len (pa_cons (pv 0) pa_nil)) pe_int (nomark _)))))
      (pss_cons (ps_set (i := 6) scRooted.nd rfl (Or.inl rfl) (pe_slice sl_list (pv 1) po_none (po_some (pe_op op_fdiv (pe_callB call_len_seq rfl ml PySem.boot_len (pa_cons (pv 0) pa_nil)) pe_int))))
      (pss_cons (ps_set (i := 1) scRooted.nd rfl (Or.inl rfl) (pe_lst (pa_cons pe_non pa_nil)))
      (pss_one (ps_for PassesOwn.never rfl (pi_range1 rfl mr (pa_cons pe_int pa_nil)) (pg_name (i := 7) scRooted.nd rfl (Or.inl rfl))
        (pss_one (ps_for PassesOwn.never rfl (pi_list (pv 6)) (pg_name (i := 8) scRooted.nd rfl (Or.inl rfl))
          (pss_one (ps_if (pt_cmp (pc_isN (pv 8)))
            (pss_one (ps_expr (pe_bm PySem.F.plainAttrs_list PySem.F.slot_list_append PySem.F.type_list_append mt_append (pv 1) (pa_cons pe_int pa_nil))))
            (pss_one (ps_expr (pe_bm PySem.F.plainAttrs_list PySem.F.slot_list_append PySem.F.type_list_append mt_append (pv 1) (pa_cons (pe_op op_add (pe_op op_add (pv 8) pe_int) (pe_op op_mul (pv 7) (pe_callB call_len_seq rfl ml PySem.boot_len (pa_cons (pv 6) pa_nil)))) pa_nil))))))))))))
      pss_nil)
    (pss_one (ps_ret (pv 1)))))), ?_⟩
  have hl : (ns.map V.int).length = ns.length := List.length_map _; refine cutS fun N hN => ?_; refine ⟨(by show 1 <= sizeLine; decide), fun ar har => hN _ _ ?_⟩
  refine cutS fun N hN => ?_; have s1 : Same H (upd H ar (.lst [.non])) := same_new har _; refine ⟨_, rfl, (by show 1 <= sizeLine; decide), fun z hz => ?_⟩
  have s2 : Same H (upd (upd H ar (.lst [.non])) z (.lst [.int 0])) := s1.trans (same_new hz _); refine ⟨a, z, _, _, rfl, rfl, s2 _ _ ha, upd_same, ?_, fun y hy => ?_⟩
  . show _ + 1 <= sizeLine
    rw [hl]; exact small (by omega)
  have s3 := s2.trans (same_new hy (.lst (ns.map V.int ++ [.int 0])))
  obtain ⟨v0, hv0⟩ : ∃ v0 : Int, atI (ns.map V.int ++ [V.int 0]) 0 = some (.int v0) := by
    cases ns with
    | nil => exact ⟨0, atI_nat (j := 0) rfl⟩
    | cons n r => exact ⟨n, atI_nat (j := 0) rfl⟩
  refine ⟨y, _, 0, _, rfl, rfl, SqL.of upd_same, hv0, _, _, rfl, rfl, (by show (0 : Int) < 9; decide), hN _ _ ?_⟩
  refine cutS fun N hN => ?_
  have e1 : (upd (upd (upd H ar (.lst [.non])) z (.lst [.int 0])) y (.lst (ns.map V.int ++ [.int 0]))) ar = some (.lst (([none] : Ab).map vO)) := by
    have h1 : (upd H ar (.lst [.non])) ar = some (.lst [.non]) := upd_same; have h2 := same_new hz (.lst [V.int 0]) _ _ h1; exact same_new hy _ _ _ h2
  refine ⟨_, rfl, a, _, rfl, .inl (SqL.of (s3 _ _ ha)), _, _, rfl, rfl, 1, _, rfl, ⟨by decide, by decide, by omega, by rw [hl]; omega⟩, ?_⟩
  have et : ((((ns.map V.int).length : Nat) : Int) + 1 - 1).toNat = ns.length := by rw [hl]; omega
  rw [et]
  refine for_rangeN (lo := 1) (n := ns.length) (fun i σ H2 => ∃ (o3 o4 o5 : Option V) (ab : Ab), σ = [some (.ref a), some (.ref ar), some (.int (v0 % 9)), o3, o4, o5, none, none, none] /\ Same H H2 /\ H2 ar = some (.lst (ab.map vO)) /\ Up ab /\ ab.length = i + 1)
    ⟨none, none, none, [none], rfl, s3, e1, up1, rfl⟩ ?_ ?_
  . rintro i σ H2 hi p_ M hM
    refine hld fun g_ k_ => ?_; obtain ⟨o3, o4, o5, ab, rfl, s4, ea, U, hab⟩ := p_; refine k_ ?_; have hx : ns[i]? = some ns[i] := List.getElem?_eq_getElem hi; have ei : (1 + (i : Int)) - 1 = (i : Int) := by omega
    obtain ⟨j, hj0, hj1, hj⟩ := spot_ok ns[i] (1 + (i : Int)) (by omega)
    refine cutS fun N1 hN1 => ?_; refine ⟨_, rfl, _, rfl, _, _, rfl, rfl, a, _, _, .int ns[i], rfl, rfl, SqL.of (s4 _ _ ha), by rw [ei]; exact at_map hx, hN1 _ _ ?_⟩
    refine cutS fun N1 hN1 => ?_
    refine ⟨_, rfl, _, _, rfl, rfl, _, _, rfl, rfl, ⟨by decide, by decide⟩, _, rfl, _, _, rfl, rfl, ⟨by decide, by decide⟩, _, rfl, _, _, rfl, rfl, (by show (0 : Int) < 1 + (i : Int); omega),
      _, rfl, _, _, rfl, rfl, ⟨by decide, by decide⟩, _, rfl, _, _, rfl, rfl, (by show (0 : Int) < 1 + (i : Int); omega), (by show 4 <= sizeLine; decide), fun t ht => ?_⟩
    refine ⟨_, rfl, _, _, rfl, rfl, (by show (0 : Int) < 4; decide), t, _, _, _, rfl, rfl, SqL.of upd_same, hj, hN1 _ _ ?_⟩
    have s5 : Same H2 (upd H2 t (.lst [V.int 0, V.int ((1 + (i : Int) - 1) / 2), V.int (ns[i] / 4 % (1 + (i : Int))), V.int (ns[i] / 4 % (1 + (i : Int)))])) := same_new ht _; have ea5 := s5 _ _ ea
    have hz : ∀ {j' : Int} {H3 : Hp} {o3' o4' : Option V}, 0 <= j' -> j' < 1 + (i : Int) -> Same H H3 -> H3 ar = some (.lst (ab.map vO)) ->
        ∃ (o3 o4 o5 : Option V) (ab' : Ab), [some (V.ref a), some (.ref ar), some (.int (v0 % 9)), o3', o4', some (.int j'), none, none, none] = [some (V.ref a), some (.ref ar), some (.int (v0 % 9)), o3, o4, o5, none, none, none] /\
          Same H (upd H3 ar (.lst (ab.map vO ++ [.int j']))) /\ (upd H3 ar (.lst (ab.map vO ++ [.int j']))) ar = some (.lst (ab'.map vO)) /\ Up ab' /\ ab'.length = i + 1 + 1 := by
      intro j' H3 o3' o4' h0 h1 hs he; refine ⟨_, _, _, ab ++ [some j'.toNat], rfl, same_upd hs har _, by rw [upd_same, snocV ab h0], U.snoc (by omega), by rw [List.length_append, hab]; rfl⟩
    have hsz : (ab.map vO).length < sizeLine := by rw [List.length_map, hab]; exact smallt (by omega)
    refine cutS fun N1 hN1 => ?_; refine ⟨_, rfl, rfl, _, rfl, ?_⟩; refine ite2 (fun _ => ?_) (fun _ => ?_)
    . refine ⟨_, rfl, _, _, rfl, rfl, hN1 _ _ ?_⟩
      refine ⟨_, rfl, rfl, _, rfl, ?_⟩; refine ite2 (fun _ => ?_) (fun _ => ?_)
      . exact ⟨_, rfl, .inl ⟨rfl, _, SqL.of ea5⟩, _, rfl, ar, _, _, rfl, rfl, ea5, hsz, hM _ _ (hz (by omega) (by omega) (s4.trans s5) ea5)⟩
      . exact ⟨_, rfl, .inl ⟨rfl, _, SqL.of ea5⟩, _, rfl, ar, _, _, rfl, rfl, ea5, hsz, hM _ _ (hz (by omega) (by omega) (s4.trans s5) ea5)⟩
    . refine hN1 _ _ ?_
      refine ⟨_, rfl, rfl, _, rfl, ?_⟩; refine ite2 (fun _ => ?_) (fun _ => ?_)
      . exact ⟨_, rfl, .inl ⟨rfl, _, SqL.of ea5⟩, _, rfl, ar, _, _, rfl, rfl, ea5, hsz, hM _ _ (hz (by omega) (by omega) (s4.trans s5) ea5)⟩
      . exact ⟨_, rfl, .inl ⟨rfl, _, SqL.of ea5⟩, _, rfl, ar, _, _, rfl, rfl, ea5, hsz, hM _ _ (hz hj0 hj1 (s4.trans s5) ea5)⟩
  . rintro σ H2 p_
    refine hld fun g_ k_ => ?_; obtain ⟨o3, o4, o5, ab, rfl, s4, ea, U, hab⟩ := p_; refine k_ ?_; refine hN _ _ ?_; refine cutS fun N hN => ?_; have done : ∀ {o6 o7 o8 : Option V} {H3 : Hp}, Same H H3 -> H3 ar = some (.lst (ab.map vO)) -> Q (.ref ar) H3 := fun hs he => q ar ab _ hs U (by omega) har he
    refine ⟨_, rfl, rfl, _, rfl, ?_⟩; refine ite2 (fun _ => ?_) (fun _ => ?_)
    . refine ⟨_, rfl, a, _, rfl, .inl (SqL.of (s4 _ _ ha)), _, _, rfl, rfl, _, rfl, ?_⟩
      refine ite2 (fun c => ?_) (fun _ => ?_)
      . have c' := of_decide_eq_true c
        rw [hl] at c'; have ed : (((ns.map V.int).length : Nat) : Int) / 2 = ((ns.length / 2 : Nat) : Int) := by rw [hl]; omega
        refine ⟨_, rfl, _, rfl, a, _, rfl, .inl (SqL.of (s4 _ _ ha)), _, _, rfl, rfl, ⟨by decide, by decide⟩, _, rfl, ar, _, rfl, SqL.of ea, fun hf hhf => ?_⟩
        rw [ed, cut_take, <- List.map_take]; have Uh : Up (ab.take (ns.length / 2)) := U.take (by omega)
        have hh : (ab.take (ns.length / 2)).length = ns.length / 2 := by rw [List.length_take]; omega
        have s5 := same_new hhf (.lst ((ab.take (ns.length / 2)).map vO)); refine ⟨(by show 1 <= sizeLine; decide), fun br hbr => ?_⟩
        have s6 := same_new hbr (.lst [V.non]); have ehf := s6 _ _ (show (upd H2 hf (.lst ((ab.take (ns.length / 2)).map vO))) hf = _ from upd_same)
        have nbr : H br = none := (s4.trans s5).free hbr; have nhb : hf ≠ br := ne_of_none upd_same hbr
        refine ⟨2, rfl, by decide, by decide, for_rangeN (n := 2) (fun c σ H3 => ∃ (o7 o8 : Option V) (wb : Ab), σ = [some (.ref a), some (.ref br), some (.int (v0 % 9)), o3, o4, o5, some (.ref hf), o7, o8] /\ Same H H3 /\ H3 hf = some (.lst ((ab.take (ns.length / 2)).map vO)) /\ H3 br = some (.lst (wb.map vO)) /\ Up wb /\ wb.length = 1 + c * (ns.length / 2))
          ⟨none, none, [none], rfl, s4.trans (s5.trans s6), ehf, upd_same, up1, by simp⟩ ?_ ?_⟩
        . rintro c σ H3 hc p_ M hM
          refine hld fun g_ k_ => ?_; obtain ⟨o7, o8, wb, rfl, s7, e7, eb, Uw, hw⟩ := p_; refine k_ ?_
          refine ⟨_, rfl, hf, rfl, ⟨_, SqL.of e7⟩, for_listN (K := K) (a := hf) (xs := (ab.take (ns.length / 2)).map vO) (fun j σ H4 => ∃ (o8 : Option V) (wb : Ab), σ = [some (.ref a), some (.ref br), some (.int (v0 % 9)), o3, o4, o5, some (.ref hf), some (.int (0 + (c : Int))), o8] /\ Same H H4 /\ H4 hf = some (.lst ((ab.take (ns.length / 2)).map vO)) /\ H4 br = some (.lst (wb.map vO)) /\ Up wb /\ wb.length = 1 + c * (ns.length / 2) + j)
            ⟨o8, wb, rfl, s7, e7, eb, Uw, hw⟩ (fun j σ H4 _ ⟨_, _, _, _, e8, _⟩ => SqL.of e8) ?_ ?_⟩
          . rintro j x σ H4 hx p_ M1 hM1
            refine hld fun g_ k_ => ?_; obtain ⟨o8, wb, rfl, s8, e8, eb, Uw, hw⟩ := p_; refine k_ ?_; obtain ⟨o, ho, rfl⟩ := of_map hx; have hjl : j < ns.length / 2 := by have := (List.getElem?_eq_some_iff.mp ho).1; rw [hh] at this; exact this
            have hbl : (wb.map vO).length < sizeLine := by
              rw [List.length_map, hw]; have : c * (ns.length / 2) <= 2 * (ns.length / 2) := Nat.mul_le_mul_right _ (by omega)
              exact smallt (by omega)
            have fin : ∀ {v : Int} {ox : Option V}, 0 <= v -> v < (wb.length : Int) -> ∃ (o8 : Option V) (wb' : Ab), [some (V.ref a), some (.ref br), some (.int (v0 % 9)), o3, o4, o5, some (.ref hf), some (.int (0 + (c : Int))), ox] = [some (V.ref a), some (.ref br), some (.int (v0 % 9)), o3, o4, o5, some (.ref hf), some (.int (0 + (c : Int))), o8] /\
                Same H (upd H4 br (.lst (wb.map vO ++ [.int v]))) /\ (upd H4 br (.lst (wb.map vO ++ [.int v]))) hf = some (.lst ((ab.take (ns.length / 2)).map vO)) /\ (upd H4 br (.lst (wb.map vO ++ [.int v]))) br = some (.lst (wb'.map vO)) /\ Up wb' /\ wb'.length = 1 + c * (ns.length / 2) + (j + 1) := by
              intro v ox h0 h1; exact ⟨ox, wb ++ [some v.toNat], rfl, same_upd s8 nbr _, by rw [upd_ne nhb]; exact e8, by rw [upd_same, snocV wb h0], Uw.snoc (by omega), by rw [List.length_append, hw]; rfl⟩
            have hwp := Uw.pos; refine ⟨_, rfl, _, rfl, ?_⟩
            cases o with
            | none =>
              exact iteT ⟨_, rfl, .inl ⟨rfl, _, SqL.of eb⟩, br, _, _, rfl, rfl, eb, hbl, hM1 _ _ (fin (by omega) (by omega))⟩
            | some p =>
              have hpj : p < j := by
                by_cases hj0 : 0 < j
                . obtain ⟨p', hp', hlt⟩ := Uh.up j hj0 (by rw [hh]; exact hjl)
                  rw [ho] at hp'
                  cases hp'
                  exact hlt
                . have : j = 0 := by omega
                  subst this; rw [Uh.root] at ho
                  cases ho
              have hlen : (((ab.take (ns.length / 2)).map vO).length : Nat) = ns.length / 2 := by rw [List.length_map, hh]
              refine iteF ⟨_, rfl, .inl ⟨rfl, _, SqL.of eb⟩, _, rfl, _, _, rfl, rfl, _, rfl, _, rfl, hf, _, rfl, .inl (SqL.of e8), _, _, rfl, rfl, .inl ⟨by omega, by omega⟩, _, _, rfl, rfl, br, _, _, rfl, rfl, eb, hbl, hM1 _ _ (fin ?_ ?_)⟩
              . have : (0 : Int) <= (0 + (c : Int)) * (((ab.take (ns.length / 2)).map vO).length : Nat) := Int.mul_nonneg (by omega) (by omega)
                omega
              . rw [hlen, hw]
                have : (0 + (c : Int)) * ((ns.length / 2 : Nat) : Int) = ((c * (ns.length / 2) : Nat) : Int) := by rw [Int.zero_add, Int.natCast_mul]
                rw [this]
                omega
          . rintro σ H4 p_
            refine hld fun g_ k_ => ?_; obtain ⟨o8, wb, rfl, s8, e8, eb, Uw, hw⟩ := p_; refine k_ ?_; rw [List.length_map, hh] at hw; exact hM _ _ ⟨_, _, wb, rfl, s8, e8, eb, Uw, by rw [hw, Nat.add_mul]; omega⟩
        . rintro σ H3 p_
          refine hld fun g_ k_ => ?_; obtain ⟨o7, o8, wb, rfl, s7, e7, eb, Uw, hw⟩ := p_; refine k_ ?_; exact hN _ _ ⟨_, rfl, q br wb _ s7 Uw (by omega) nbr eb⟩
      . exact hN _ _ ⟨_, rfl, q ar ab _ s4 U (by omega) har ea⟩
    . exact iteF (hN _ _ ⟨_, rfl, q ar ab _ s4 U (by omega) har ea⟩)
end
end K13
namespace K13
open PySem L2 KM KD PyProof.Rows
section
variable {P : Program} {w : World} {K : PySem.W.Frag} {mg : Str -> Option Value} {base : Heap} {f : Addr} {fd : FuncData}
theorem scText : FnScope ["_law_above", "_law_knot", "_law_inner", "_law_one"] ["_law_above", "_law_knot"] (defScope sText) := ⟨rfl, rfl, rfl, by decide +kernel, rfl, by decide +kernel, by decide +kernel⟩
theorem ok_text {n : Nat} (F : Fun K "_law_text_of" "_law_text_of" sText f fd) (G : Kit P w K mg base n "_law_text_of" ["_law_above", "_law_knot"] (spText n) f fd) (ml : mg "len" = none) (mr : mg "range" = none) (ms : mg "sorted" = none) :
    FnOk P w K mg base CX0 (n + 1) f fd ["_law_above", "_law_knot"] (spText (n + 1)) := by
  refine F.ok scText (fun vs H Q E h => ?_) (fun cdv A outer s H vs Q E hr h => ?_)
  . obtain ⟨a, ab, r, knot, rk, rfl, _⟩ := h
    rfl
  obtain ⟨a, ab, r, knot, rk, rfl, ha, T, hk, hn, hc, q⟩ := h
  refine ⟨_, pss_cons (ps_set (i := 2) scText.nd rfl (Or.inl rfl) (pe_lst pa_nil))
    (pss_cons (ps_for PassesOwn.never rfl (pi_range1 rfl mr (pa_cons (pe_callB call_len_seq rfl ml PySem.boot_len (pa_cons (pv 0) pa_nil)) pa_nil)) (pg_name (i := 3) scText.nd rfl (Or.inl rfl))
      (pss_one (ps_if (pt_cmpR op_eq (pe_ix ix_list (pv 0) (pv 3) (fun _ _ => rfl)) (pv 1) (nomark _))
        (pss_one (ps_expr (pe_bm PySem.F.plainAttrs_list PySem.F.slot_list_append PySem.F.type_list_append mt_append (pv 2) (pa_cons (pe_call G.ok hr rfl G.mg G.kp G.bd .nil pass0 (pa_cons (pv 0) (pa_cons (pv 3) pa_nil))) pa_nil)))) pss_nil)))
    (pss_one (ps_ret (pe_op op_add_str (pe_op op_add_str pe_str (pe_bm PySem.F.plainAttrs_str PySem.F.slot_str_join PySem.F.type_str_join mt_join pe_str
      (pa_cons (pe_callB call_sortedS rfl ms boot_sorted (pa_cons (pv 2) pa_nil)) pa_nil))) pe_str)))), ?_⟩
  have hl : (ab.map vO).length = ab.length := List.length_map _; refine ⟨(by show 0 <= sizeLine; decide), fun p hp => ?_⟩
  have s1 := same_new hp (.lst []); refine ⟨_, rfl, a, _, rfl, .inl (SqL.of (s1 _ _ ha)), _, rfl, by omega, by rw [hl]; omega, ?_⟩
  rw [hl, Int.toNat_natCast]
  refine for_range (lo := 0) (n := ab.length) (fun i σ H2 => ∃ (o3 : Option V), σ = [some (.ref a), some (vN knot), some (.ref p), o3] /\ Same H H2 /\ H2 p = some (.lst (((kidsTo ab knot i).map (fm ab)).map vT)))
    ⟨none, rfl, s1, upd_same⟩ ?_ ?_
  . rintro i σ H2 hi p_
    refine hld fun g_ k_ => ?_; obtain ⟨o3, rfl, s3, e3⟩ := p_; refine k_ ?_; have hx : ab[i]? = some ab[i] := List.getElem?_eq_getElem hi; have ei : (0 : Int) + (i : Int) = (i : Int) := by omega
    refine ⟨_, rfl, _, rfl, a, _, _, _, rfl, rfl, SqL.of (s3 _ _ ha), by rw [ei]; exact at_map hx, _, rfl, ?_⟩
    have hkt := kidsTo_len ab knot i
    by_cases e : ab[i] = some knot
    . have h0 : ab[i]? = some (some knot) := by rw [hx, e]
      rw [e]; refine ⟨rfl, _, rfl, ?_⟩; rw [show decide (vO (some knot) = vN knot) = true from decide_eq_true rfl]
      refine iteT ⟨_, rfl, .inl ⟨rfl, _, SqL.of e3⟩, _, rfl, _, rfl, ?_⟩; rw [ei]; refine ⟨a, ab, r, i, rk, rfl, s3 _ _ ha, T, hi, hn, ?_, fun H4 s4 => ?_⟩
      . have := (T.up i knot h0).2
        omega
      refine ⟨p, _, _, rfl, rfl, s4 _ _ e3, by rw [List.length_map, List.length_map]; exact smallt (by omega), ?_⟩
      refine ⟨_, rfl, same_upd (s3.trans s4) hp _, ?_⟩; rw [upd_same, kidsTo_hit h0, List.map_append, List.map_append]
      rfl
    . have h0 : ab[i]? ≠ some (some knot) := by rw [hx]; intro z; exact e (Option.some.inj z)
      have hne : ¬ vO ab[i] = vN knot := by
        intro z
        cases qo : ab[i] with
        | none => rw [qo] at z; cases z
        | some k =>
          rw [qo] at z; have z' : ((k : Nat) : Int) = ((knot : Nat) : Int) := V.int.inj z; exact e (by rw [qo, show k = knot by omega])
      refine ⟨?_, _, rfl, ?_⟩
      . cases ab[i] <;> rfl
      rw [decide_eq_false hne]; refine iteF ⟨_, rfl, s3, ?_⟩; rw [kidsTo_miss h0]; exact e3
  . rintro σ H2 p_
    refine hld fun g_ k_ => ?_; obtain ⟨o3, rfl, s3, e3⟩ := p_; refine k_ ?_; rw [kidsTo_all] at e3; have hlen := kids_len ab knot
    have hsum : (((kids ab knot).map (fm ab)).map (·.length)).sum <= 2 * 64 * 64 := by
      rw [List.map_map]; have := fm_kids_len ab knot; have h2 : 2 * ab.length * ab.length <= 2 * 64 * 64 := Nat.mul_le_mul (Nat.mul_le_mul (Nat.le_refl _) (by omega)) (by omega)
      exact Nat.le_trans this h2
    generalize hts : (kids ab knot).map (fm ab) = ts at e3 hsum; have hts64 : ts.length < 64 := by rw [<- hts, List.length_map]; omega
    rw [<- vT_map] at e3; refine ⟨rfl, _, rfl, p, ts.map mkS, rfl, SqL.of e3, by rw [List.length_map]; exact hts64, fun l ss' h1 h2 h3 => ?_⟩
    have es := sorted_is h1 h2; subst es
    have el : (((srt ts).map mkS).map (·.length)).sum = (ts.map (·.length)).sum := by
      rw [len_vT]; exact ((srt_perm ts).map _).sum_nat
    have ef : (mkS (srt ts).flatten).length = (ts.map (·.length)).sum := by rw [mkS_len, srt_len]
    have e0 : (Str.ofString "").length = 0 := by rw [ep]; rfl
    have e1 : (Str.ofString "(").length = 1 := by rw [lp]; rfl
    have e2 : (Str.ofString ")").length = 1 := by rw [rp]; rfl
    refine ⟨_, l, (srt ts).map mkS, rfl, rfl, SqL.of upd_same, ?_, ?_⟩
    . rw [el, e0]
      omega
    rw [join_is]; refine ⟨_, _, rfl, rfl, ?_, _, _, rfl, rfl, ?_, ?_⟩
    . rw [ef, e1]
      exact small (by omega)
    . rw [Str.length_append, ef, e1, e2]
      exact small (by omega)
    rw [brk_is, <- hts, <- T.fm_eq hk]; exact q _ (s3.trans (same_new h3 _))
theorem text_none : FnOk P w K mg base CX0 0 f fd ["_law_above", "_law_knot"] (spText 0) := by
  have no : ∀ vs H Q E, ¬ spText 0 vs H Q E := fun vs H Q E h => by
    obtain ⟨a, ab, r, knot, rk, _, _, T, hk, _, hc, _⟩ := h; have := T.low knot hk
    omega
  exact ⟨fun vs H Q E h => absurd h (no vs H Q E), fun A outer s H args us vs Q E _ _ _ _ h => absurd h (no vs H Q E)⟩
theorem text_all (F : Fun K "_law_text_of" "_law_text_of" sText f fd) (bd : Binds K fd ["_law_above", "_law_knot"] []) (hm : mg "_law_text_of" = some (.ref f)) (ml : mg "len" = none) (mr : mg "range" = none) (ms : mg "sorted" = none) :
    ∀ n : Nat, FnOk P w K mg base CX0 n f fd ["_law_above", "_law_knot"] (spText n)
  | 0 => text_none
  | n + 1 => ok_text F ⟨text_all F bd hm ml mr ms n, bd, F.kp, hm⟩ ml mr ms
end
end K13
namespace K13
open PySem L2 KM KD PyProof.Rows
section
variable {P : Program} {w : World} {K : PySem.W.Frag} {mg : Str -> Option Value} {base : Heap} {f : Addr} {fd : FuncData}
theorem scBeside : FnScope ["tree", "lines", "beside", "line"] ["tree"] (defScope sKnotsBeside) := ⟨rfl, rfl, rfl, by decide +kernel, rfl, by decide +kernel, by decide +kernel⟩
theorem ndKn1 : (["knot"] : List Str).Nodup := by decide +kernel
theorem ok_beside {C : Addr} (F : Fun K "knots_beside" "knots_beside" sKnotsBeside f fd) (ml : mg "len" = none) (mr : mg "range" = none) (mn : mg "min" = none) (mx : mg "max" = none) (mC : mg "NoTree" = some (.ref C)) (xc : XC K C) : FnOk P w K mg base (CXe P w) 1 f fd ["tree"] (spBeside C) := by
  refine F.okX scBeside (fun vs H Q E h => ?_) (fun cdv A outer s H vs Q E hr h => ?_)
  . obtain ⟨t, L, ps, c, li, rfl, _⟩ := h
    rfl
  obtain ⟨t, L, ps, c, li, rfl, G, hn, q, qe⟩ := h
  refine ⟨_, pss_cons (ps_set (i := 1) scBeside.nd rfl (Or.inl rfl) (pe_ix ix_tup (pv 0) pe_int (fun _ _ => rfl)))
    (pss_cons (ps_if (pt_cmpR op_ne (pe_ix ix_tup (pv 0) pe_int (fun _ _ => rfl)) (pe_op op_add (pe_callB call_len_seq rfl ml PySem.boot_len (pa_cons (pv 1) pa_nil)) pe_int) (nomark _)) (pss_one (ps_raise xc rfl xraise rfl mC (pa_cons pe_str pa_nil))) pss_nil)
    (pss_cons (ps_setComp (N' := ["knot"]) (js := [none]) (i := 2) scBeside.nd rfl (Or.inl rfl) (CompOk.plain rfl (by decide +kernel) (by decide +kernel) rfl (by decide)) rfl
        (pi_range1 rfl mr (pa_cons (pe_ix ix_tup (pv 0) pe_int (fun _ _ => rfl)) pa_nil)) (fun _ _ _ _ => pg_name (i := 0) ndKn1 rfl (Or.inl rfl)) (fun _ _ _ _ => pif_nil) (fun _ _ _ _ => pe_lst pa_nil))
    (pss_cons (ps_for ownX rfl (pi_list (pv 1)) (pg_name (i := 3) scBeside.nd rfl (Or.inl rfl))
      (pss_cons (ps_if (PW.pt (pw_or (pt_cmpR op_lt (pe_callB (call_minT rfl) rfl mn PyProof.Rows.boot_min (pa_cons (pv 3) pa_nil)) pe_int (nomark _))
          (pw_or1 (pt_cmpR op_ge (pe_callB (call_maxT rfl) rfl mx PyProof.Rows.boot_max (pa_cons (pv 3) pa_nil)) (pe_callB call_len_seq rfl ml PySem.boot_len (pa_cons (pv 2) pa_nil)) (nomark _))))) (pss_one (ps_raise xc rfl xraise rfl mC (pa_cons pe_str pa_nil))) pss_nil)
      (pss_cons (ps_expr (pe_bm PySem.F.plainAttrs_list PySem.F.slot_list_append PySem.F.type_list_append mt_append (pe_ix ix_list (pv 2) (pe_ix ix_tup (pv 3) pe_int (fun _ _ => rfl)) (fun _ _ => rfl)) (pa_cons (pe_ix ix_tup (pv 3) pe_int (fun _ _ => rfl)) pa_nil)))
      (pss_one (ps_expr (pe_bm PySem.F.plainAttrs_list PySem.F.slot_list_append PySem.F.type_list_append mt_append (pe_ix ix_list (pv 2) (pe_ix ix_tup (pv 3) pe_int (fun _ _ => rfl)) (fun _ _ => rfl)) (pa_cons (pe_ix ix_tup (pv 3) pe_int (fun _ _ => rfl)) pa_nil)))))))
    (pss_one (ps_ret (pv 2)))))), ?_⟩
  have one : (1 : Nat) <= sizeLine := by decide
  have hpl : ps.length = li.length := by rw [G.ls.len, List.length_map]
  have hl : (ps.map V.ref).length = li.length := by rw [List.length_map, hpl]
  refine ⟨_, rfl, t, _, _, _, rfl, rfl, SqT.of G.tup, rfl, ?_⟩; refine ⟨_, rfl, t, _, _, _, rfl, rfl, SqT.of G.tup, rfl, _, rfl, L, _, rfl, .inl (SqL.of G.ls.top), _, _, rfl, rfl, rfl, _, rfl, ?_⟩
  by_cases hc : c = ((li.length : Nat) : Int) + 1
  case neg =>
    rw [decide_eq_false (show ¬ V.int c = V.int ((((ps.map V.ref).length : Nat) : Int) + 1) from fun z => hc (by have := V.int.inj z; rw [hl] at this; exact this))]
    exact iteT ⟨one, qe (fun z => hc z.len) _ (Same.refl _)⟩
  refine iteNS (by rw [hl, hc]) ?_
  have hcn : c = ((li.length + 1 : Nat) : Int) := by omega
  refine ⟨_, rfl, t, _, _, _, rfl, rfl, SqT.of G.tup, rfl, c, rfl, by omega, by omega, ?_⟩
  rw [show c.toNat = li.length + 1 by omega]
  refine comp_range (fun D i ys τ H2 => (∃ o, τ = [o]) /\ ∃ bs : List Addr, ys = bs.map V.ref /\ bs.length = i /\ bs.Nodup /\ Same H H2 /\ H D = none /\ H2 D = some (.lst ys) /\ ∀ b ∈ bs, H b = none /\ H2 b = some (.lst []) /\ b ≠ D)
    (fun D hD => ⟨⟨_, rfl⟩, [], rfl, rfl, List.nodup_nil, same_new hD _, hD, upd_same, fun b hb => (nomatch hb)⟩) ?_ ?_
  . rintro D i ys τ H2 hi p_
    refine hld fun g_ k_ => ?_; obtain ⟨⟨o, rfl⟩, bs, rfl, hbi, nd, s2, hD, e2, each⟩ := p_; refine k_ ?_
    dsimp only [gName, tAlways]
    rw [if_pos rfl]; refine ⟨(by show 0 <= sizeLine; decide), fun p hp => ?_⟩
    have hpD : D ≠ p := ne_of_none e2 hp; refine ⟨by rw [upd_ne hpD]; exact e2, smallt (by rw [List.length_map]; omega), Nx.mk hi ⟨⟨_, rfl⟩, bs ++ [p], by rw [List.map_append]; rfl, by rw [List.length_append, hbi]; rfl, ?_, ?_, hD, upd_same, fun b hb => ?_⟩⟩
    . rw [List.nodup_append]
      refine ⟨nd, by simp, fun b hb b' hb' e => ?_⟩
      rw [List.mem_singleton] at hb'; subst hb' e; rw [(each _ hb).2.1] at hp
      cases hp
    . exact same_upd (s2.trans (same_new hp _)) hD _
    . rcases List.mem_append.mp hb with h | h
      . obtain ⟨h1, h2, h3⟩ := each b h
        exact ⟨h1, by rw [upd_ne h3, upd_ne (ne_of_none h2 hp)]; exact h2, h3⟩
      . rw [List.mem_singleton] at h
        subst h; exact ⟨s2.free hp, by rw [upd_ne (Ne.symm hpD), upd_same], Ne.symm hpD⟩
  rintro D ys τ H2 p_
  refine hld fun g_ k_ => ?_; obtain ⟨_, bs, rfl, hbl, nd, s2, hD, e2, each⟩ := p_; refine k_ ?_; have B0 : LsAt H H2 D bs (near ((ofL li).take 0)) := ⟨s2, e2, nd, fun b hb => (each b hb).1, hD, fun k b h => (each b (List.mem_of_getElem? h)).2.1⟩; have hbm : (bs.map V.ref).length = li.length + 1 := by rw [List.length_map, hbl]
  refine ⟨_, rfl, L, rfl, ⟨_, SqL.of (s2 _ _ G.ls.top)⟩, for_list (K := K) (a := L) (xs := ps.map V.ref) (fun i σ H3 => (∃ o, σ = [some (.ref t), some (.ref L), some (.ref D), o]) /\ (∀ (j : Nat) (p : Int × Int), j < i -> li[j]? = some p -> (0 <= p.1 /\ p.1 < c) /\ 0 <= p.2 /\ p.2 < c) /\ LsAt H H3 D bs (near ((ofL li).take i)))
    ⟨⟨_, rfl⟩, fun j p h => absurd h (Nat.not_lt_zero _), B0⟩ (fun i σ H3 _ ⟨_, _, B⟩ => SqL.of (B.same _ _ G.ls.top)) ?_ ?_⟩
  . rintro i x σ H3 hx p_
    refine hld fun g_ k_ => ?_; obtain ⟨⟨o, rfl⟩, hin, B⟩ := p_; refine k_ ?_; obtain ⟨d, hd, rfl⟩ := of_map hx; have hil : i < li.length := by rw [<- hpl]; exact (List.getElem?_eq_some_iff.mp hd).1
    have hli : li[i]? = some li[i] := List.getElem?_eq_getElem hil; obtain ⟨d', hd', ed'⟩ := LinesAt.at (G.ls.up B.same) hil; rw [hd] at hd'
    cases hd'
    generalize hpq : li[i] = pq at hli ed'; obtain ⟨pa, pb⟩ := pq; have edI : SqT K H3 d ([pa, pb].map V.int) := SqT.of ed'
    have hmin : ∃ m, m ∈ [pa, pb] /\ ∀ n ∈ [pa, pb], m <= n := by
      by_cases h : pa <= pb
      . exact ⟨pa, by simp, fun n hn => by rcases List.mem_cons.mp hn with rfl | hn; omega; rw [List.mem_singleton] at hn; omega⟩
      . exact ⟨pb, by simp, fun n hn => by rcases List.mem_cons.mp hn with rfl | hn; omega; rw [List.mem_singleton] at hn; omega⟩
    have hmax : ∃ m, m ∈ [pa, pb] /\ ∀ n ∈ [pa, pb], n <= m := by
      by_cases h : pb <= pa
      . exact ⟨pa, by simp, fun n hn => by rcases List.mem_cons.mp hn with rfl | hn; omega; rw [List.mem_singleton] at hn; omega⟩
      . exact ⟨pb, by simp, fun n hn => by rcases List.mem_cons.mp hn with rfl | hn; omega; rw [List.mem_singleton] at hn; omega⟩
    obtain ⟨mi, mi1, mi2⟩ := hmin; obtain ⟨ma, ma1, ma2⟩ := hmax; have bad : ¬ ((0 <= pa /\ pa < c) /\ 0 <= pb /\ pb < c) -> ¬ ValidL c li := fun h z => h (z.lt _ (List.mem_of_getElem? hli)); refine ⟨_, rfl, d, [pa, pb], mi, rfl, edI, mi1, mi2, _, _, rfl, rfl, _, rfl, ?_⟩
    by_cases hmi : mi < 0
    . rw [decide_eq_true hmi]
      refine iteT (iteT ⟨one, qe (bad fun z => ?_) _ B.same⟩)
      rcases List.mem_cons.mp mi1 with rfl | h
      . omega
      . rw [List.mem_singleton] at h; omega
    rw [decide_eq_false hmi]; refine iteF ⟨_, rfl, d, [pa, pb], ma, rfl, edI, ma1, ma2, _, rfl, D, _, rfl, .inl (SqL.of B.top), _, _, rfl, rfl, _, rfl, ?_⟩
    by_cases hma : c <= ma
    . rw [decide_eq_true (show (((bs.map V.ref).length : Nat) : Int) <= ma by rw [hbm]; omega)]
      refine iteT ⟨one, qe (bad fun z => ?_) _ B.same⟩
      rcases List.mem_cons.mp ma1 with rfl | h
      . omega
      . rw [List.mem_singleton] at h; omega
    rw [decide_eq_false (show ¬ (((bs.map V.ref).length : Nat) : Int) <= ma by rw [hbm]; omega)]
    have g1 := mi2 pa (by simp)
    have g2 := mi2 pb (by simp)
    have g3 := ma2 pa (by simp)
    have g4 := ma2 pb (by simp)
    obtain ⟨x1, hx1⟩ := Int.eq_ofNat_of_zero_le (show 0 <= pa by omega)
    obtain ⟨x2, hx2⟩ := Int.eq_ofNat_of_zero_le (show 0 <= pb by omega)
    subst hx1 hx2; have hb1 : x1 < bs.length := by omega
    have hb2 : x2 < bs.length := by omega
    have hc1 := List.getElem?_eq_getElem hb1; have hc2 := List.getElem?_eq_getElem hb2; have ec1 := B.each x1 _ hc1
    have hnl : ∀ k, (near ((ofL li).take i) k).length <= 1000 := fun k => by
      refine Nat.le_trans (near_len _ k) ?_; rw [List.length_take]
      omega
    refine iteF ⟨_, rfl, _, rfl, d, _, _, _, rfl, rfl, SqT.of ed', rfl, D, _, _, _, rfl, rfl, SqL.of B.top, at_map hc1, .inl ⟨rfl, _, SqL.of ec1⟩, _, rfl, d, _, _, _, rfl, rfl, SqT.of ed', rfl, bs[x1], _, _, rfl, rfl, ec1, smallt (by rw [List.length_map]; exact Nat.le_trans (hnl x1) (by decide)), ?_⟩
    have B1 := B.push (x := x2) hc1; have ed1 := LinesAt.at (G.ls.up B1.same) hil; obtain ⟨d', hd', ed1⟩ := ed1; rw [hd] at hd'
    cases hd'
    rw [hpq] at ed1; have ec2 := B1.each x2 _ hc2; refine ⟨_, rfl, _, rfl, d, _, _, _, rfl, rfl, SqT.of ed1, rfl, D, _, _, _, rfl, rfl, SqL.of B1.top, at_map hc2, .inl ⟨rfl, _, SqL.of ec2⟩, _, rfl, d, _, _, _, rfl, rfl, SqT.of ed1, rfl, bs[x2], _, _, rfl, rfl, ec2, ?_, ?_⟩
    . refine smallt ?_
      rw [List.length_map]; have := hnl x2
      split
      . rw [List.length_append, List.length_singleton]; omega
      . omega
    have B2 := B1.push (x := x1) hc2; refine ⟨⟨_, rfl⟩, fun j p hj hp => ?_, ?_⟩
    . by_cases e : j = i
      . subst e
        rw [hli] at hp
        cases hp
        exact ⟨⟨by omega, by omega⟩, by omega, by omega⟩
      . exact hin j p (by omega) hp
    . have hof : (ofL li).take (i + 1) = (ofL li).take i ++ [(x1, x2)] := by
        rw [List.take_add_one]
        have : (ofL li)[i]? = some (x1, x2) := by
          show (li.map _)[i]? = _
          rw [List.getElem?_map, hli]
          rfl
        rw [this]
        rfl
      have hfun : near ((ofL li).take (i + 1)) = fun j => if j = x2 then (if j = x1 then near ((ofL li).take i) j ++ [x2] else near ((ofL li).take i) j) ++ [x1] else (if j = x1 then near ((ofL li).take i) j ++ [x2] else near ((ofL li).take i) j) := by
        funext j
        rw [hof]; exact near_two _ x1 x2 j
      rw [hfun]; exact B2
  . rintro σ H3 p_
    refine hld fun g_ k_ => ?_; obtain ⟨⟨o, rfl⟩, hin, B⟩ := p_; refine k_ ?_; rw [hl, show (ofL li).take li.length = ofL li from List.take_of_length_le (by show (li.map _).length <= _; rw [List.length_map]; exact Nat.le_refl _)] at B
    rw [hl] at hin
    exact ⟨_, rfl, q ⟨hc, fun p hp => by
      obtain ⟨j, hj⟩ := List.mem_iff_getElem?.mp hp; exact hin j p (List.getElem?_eq_some_iff.mp hj).1 hj⟩ D bs H3 B.same ⟨B.top, hbl, B.each⟩⟩
end
end K13
namespace K13
open PySem L2 KM KD PyProof.Rows
section
variable {P : Program} {w : World} {K : PySem.W.Frag} {mg : Str -> Option Value} {base : Heap} {f : Addr} {fd : FuncData}
theorem scWalked : FnScope ["beside", "start", "above", "order", "place", "knot", "met"] ["beside", "start"] (defScope sWalked) := ⟨rfl, rfl, rfl, by decide +kernel, rfl, by decide +kernel, by decide +kernel⟩
theorem ok_walked {C : Addr} (F : Fun K "walked" "walked" sWalked f fd) (ml : mg "len" = none) (mC : mg "NoTree" = some (.ref C)) (xc : XC K C) : FnOk P w K mg base (CXe P w) 1 f fd ["beside", "start"] (spWalked C) := by
  refine F.okX scWalked (fun vs H Q E h => ?_) (fun cdv A outer s H vs Q E hr h => ?_)
  . obtain ⟨b, bs, n, v, ls, rfl, _⟩ := h
    rfl
  obtain ⟨b, bs, n, v, ls, rfl, G, hv, hn, hln, hlt, q, qe⟩ := h
  refine ⟨_, pss_cons (ps_set (i := 2) scWalked.nd rfl (Or.inl rfl) (pe_disp (pps_cons (pv 1) pe_non pps_nil) rfl rfl (by decide) (by decide)))
    (pss_cons (ps_set (i := 3) scWalked.nd rfl (Or.inl rfl) (pe_lst (pa_cons (pv 1) pa_nil)))
    (pss_cons (ps_set (i := 4) scWalked.nd rfl (Or.inl rfl) pe_int)
    (pss_cons (ps_while ownX (pt_cmpR op_lt (pv 4) (pe_callB call_len_seq rfl ml PySem.boot_len (pa_cons (pv 3) pa_nil)) (nomark _))
      (pss_cons (ps_set (i := 5) scWalked.nd rfl (Or.inl rfl) (pe_ix ix_list (pv 3) (pv 4) (fun _ _ => rfl)))
      (pss_cons (ps_for ownX rfl (pi_list (pe_ix ix_list (pv 0) (pv 5) (fun _ _ => rfl))) (pg_name (i := 6) scWalked.nd rfl (Or.inl rfl))
        (pss_one (ps_if (pt_cmp (pc_dnotin hr.units1 (pv 6) (pv 2)))
          (pss_cons (ps_dput hr.units1 (pv 2) (pv 6) (pv 5) rfl)
          (pss_one (ps_expr (pe_bm PySem.F.plainAttrs_list PySem.F.slot_list_append PySem.F.type_list_append mt_append (pv 3) (pa_cons (pv 6) pa_nil))))) pss_nil)))
      (pss_one (ps_set (i := 4) scWalked.nd rfl (Or.inl rfl) (pe_op op_add (pv 4) pe_int))))))
    (pss_cons (ps_if (pt_cmpR op_ne (pe_callB call_len_seq rfl ml PySem.boot_len (pa_cons (pv 3) pa_nil)) (pe_callB call_len_seq rfl ml PySem.boot_len (pa_cons (pv 0) pa_nil)) (nomark _)) (pss_one (ps_raise xc rfl xraise rfl mC (pa_cons pe_str pa_nil))) pss_nil)
    (pss_one (ps_ret (pv 2))))))), ?_⟩
  intro d hd; have hlb : (bs.map V.ref).length = n := by rw [List.length_map, G.len]
  refine ⟨_, rfl, upd_same, [(.inl (v : Int), .non)], rfl, (by show 1 <= 15; decide), ?_⟩
  have ekv : mergeK [] [((.inl (v : Int) : Key), V.non)] = kvW [v] (fun _ => none) := rfl; rw [ekv]; have s1 : Same H (upd (upd H d (.dK [])) d (.dK (kvW [v] fun _ => none))) := same_upd (same_new hd _) hd _; have ed : (upd (upd H d (.dK [])) d (.dK (kvW [v] fun _ => none))) d = some (.dK (kvW [v] fun _ => none)) := upd_same; generalize upd (upd H d (.dK [])) d (.dK (kvW [v] fun _ => none)) = H1 at s1 ed; refine ⟨_, rfl, (by show 1 <= sizeLine; decide), fun o ho => ?_⟩
  have ho0 : H o = none := s1.free ho; have hod : d ≠ o := ne_of_none ed ho
  refine while_by (fun σ H2 => ∃ (ord : List Nat) (pa : Nat -> Option Nat) (pl : Nat) (o5 o6 : Option V), σ = [some (.ref b), some (vN v), some (.ref d), some (.ref o), some (vN pl), o5, o6] /\ Same H H2 /\ H2 d = some (.dK (kvW ord pa)) /\ H2 o = some (.lst (ord.map vN)) /\ GB ls n v ord pa pl)
    (fun σ _ => match σ with | [_, _, _, _, some (.int z), _, _] => n - z.toNat | _ => 0) ⟨[v], _, 0, _, _, rfl, s1.trans (same_new ho _), by rw [upd_ne hod]; exact ed, upd_same, gb0 hv⟩ ?_ ?_
  . rintro σ H2 p_
    refine hld fun g_ k_ => ?_; obtain ⟨ord, pa, pl, o5, o6, rfl, s2, e2, e3, B⟩ := p_; refine k_ ?_; have hl : (ord.map vN).length = ord.length := List.length_map _; refine ⟨_, rfl, _, rfl, o, _, rfl, .inl (SqL.of e3), _, _, rfl, rfl, _, rfl, ?_⟩; refine ite2 (fun c => ?_) (fun c => ?_)
    . have c' := of_decide_eq_true c
      rw [hl] at c'; have hp : pl < ord.length := by omega
      have hk : ord[pl]? = some ord[pl] := List.getElem?_eq_getElem hp; generalize ord[pl] = k at hk; have hkl : k < n := B.lt _ (List.mem_of_getElem? hk); have hkb : k < bs.length := by rw [G.len]; exact hkl
      have hc : bs[k]? = some bs[k] := List.getElem?_eq_getElem hkb; have ec := G.each k _ hc; generalize bs[k] = cb at hc ec; refine ⟨_, rfl, _, rfl, o, _, _, _, rfl, rfl, SqL.of e3, at_map hk, ?_⟩
      refine ⟨_, rfl, _, rfl, b, _, _, _, rfl, rfl, SqL.of (s2 _ _ G.top), at_map hc, cb, rfl, ⟨_, SqL.of (s2 _ _ ec)⟩, for_list (K := K) (a := cb) (xs := (near ls k).map vN)
        (fun i σ H3 => ∃ (ord : List Nat) (pa : Nat -> Option Nat) (o6 : Option V), σ = [some (.ref b), some (vN v), some (.ref d), some (.ref o), some (vN pl), some (vN k), o6] /\ Same H H3 /\ H3 d = some (.dK (kvW ord pa)) /\ H3 o = some (.lst (ord.map vN)) /\ GB ls n v ord pa pl /\ ord[pl]? = some k /\ ∀ c ∈ (near ls k).take i, c ∈ ord)
        ⟨ord, pa, _, rfl, s2, e2, e3, B, hk, fun c hc => (nomatch hc)⟩ (fun i σ H3 _ ⟨_, _, _, _, s3, _⟩ => SqL.of (s3 _ _ ec)) ?_ ?_⟩
      . rintro i x σ H3 hx p_
        refine hld fun g_ k_ => ?_; obtain ⟨ord, pa, o6, rfl, s3, e2, e3, B, hk, hin⟩ := p_; refine k_ ?_; obtain ⟨c, hci, rfl⟩ := of_map hx; have hcn : c ∈ near ls k := List.mem_of_getElem? hci; have hcl : c < n := near_lt hlt hcn; have htk : (near ls k).take (i + 1) = (near ls k).take i ++ [c] := by rw [List.take_add_one, hci]; rfl
        have hbl := B.len; refine ⟨_, rfl, _, rfl, d, _, rfl, DGet.k (k := .inl (c : Int)) e2, ?_⟩
        by_cases hm : c ∈ ord
        . rw [kvW_some hm]
          refine ⟨_, rfl, iteF ⟨ord, pa, _, rfl, s3, e2, e3, B, hk, fun x hx => ?_⟩⟩; rw [htk] at hx
          rcases List.mem_append.mp hx with hx | hx
          . exact hin x hx
          . rw [List.mem_singleton] at hx; subst hx; exact hm
        . rw [kvW_none.mpr hm]
          refine ⟨_, rfl, iteT ⟨_, rfl, _, rfl, _, rfl, d, _, rfl, DPut.k (k := .inl (c : Int)) e2 (smallt (by show (ord.map _).length <= _; rw [List.length_map]; omega)), ?_⟩⟩
          rw [kvW_meet hm]; have e3' : (upd H3 d (.dK (kvW (ord ++ [c]) fun j => if j = c then some k else pa j))) o = some (.lst (ord.map vN)) := by rw [upd_ne (Ne.symm hod)]; exact e3
          refine ⟨_, rfl, .inl ⟨rfl, _, SqL.of e3'⟩, _, rfl, o, _, _, rfl, rfl, e3', smallt (by rw [List.length_map]; omega), ?_⟩
          refine ⟨ord ++ [c], _, some (vN c), rfl, same_upd (same_upd s3 hd _) ho0 _, by rw [upd_ne hod, upd_same], by rw [upd_same, List.map_append]; rfl, B.meet hk hcn hm hcl, ?_, fun x hx => ?_⟩
          . rw [List.getElem?_append_left (List.getElem?_eq_some_iff.mp hk).1]; exact hk
          . rw [htk] at hx
            rcases List.mem_append.mp hx with hx | hx
            . exact List.mem_append.mpr (.inl (hin x hx))
            . exact List.mem_append.mpr (.inr hx)
      . rintro σ H3 p_
        refine hld fun g_ k_ => ?_; obtain ⟨ord, pa, o6, rfl, s3, e2, e3, B, hk, hin⟩ := p_; refine k_ ?_; rw [List.length_map, List.take_length] at hin; have B' := B.next hk hin; have hle := B'.le; have hbl := B.len; refine ⟨_, rfl, _, _, rfl, rfl, ⟨ord, pa, pl + 1, some (vN k), o6, ?_, s3, e2, e3, B'⟩, ?_⟩
        . have e : ((pl : Nat) : Int) + 1 = ((pl + 1 : Nat) : Int) := by omega
          show [some (V.ref b), some (vN v), some (V.ref d), some (V.ref o), some (V.int ((pl : Int) + 1)), _, _] = _
          rw [e]
          rfl
        . show n - ((pl : Int) + 1).toNat < n - (pl : Int).toNat
          omega
    . have c' := of_decide_eq_false (Bool.eq_false_iff.mpr c)
      rw [hl] at c'; have hp : pl = ord.length := by have := B.le; omega
      subst hp; refine ⟨_, rfl, o, _, rfl, .inl (SqL.of e3), _, rfl, b, _, rfl, .inl (SqL.of (s2 _ _ G.top)), rfl, _, rfl, ?_⟩
      by_cases hw : ord.length = n
      . refine iteNS (by rw [hl, hlb, hw]) ?_
        exact ⟨_, rfl, q d ord pa H2 s2 hd e2 B hw⟩
      . rw [decide_eq_false (show ¬ V.int (((ord.map vN).length : Nat) : Int) = V.int (((bs.map V.ref).length : Nat) : Int) from fun z => hw (by have := V.int.inj z; rw [hl, hlb] at this; omega))]
        exact iteT ⟨(by show 1 <= sizeLine; decide), qe ord pa H2 s2 B hw⟩
  . rintro σ H2 Q1 Q2 hQ p_
    refine hld fun g_ k_ => ?_; obtain ⟨v1, h1, v2, h2, p2, ys, e1, e2, i, j, e3, e4, k, e5, h⟩ := p_; refine k_ ?_; exact ⟨v1, h1, v2, h2, p2, ys, e1, e2, i, j, e3, e4, k, e5, hQ _ _ h⟩
end
end K13
namespace K13
open PySem L2 KM KD PyProof.Rows
section
variable {P : Program} {w : World} {K : PySem.W.Frag} {mg : Str -> Option Value} {base : Heap} {f : Addr} {fd : FuncData}
theorem scHung : FnScope ["beside", "root", "above"] ["beside", "root"] (defScope sHungUp) := ⟨rfl, rfl, rfl, by decide +kernel, rfl, by decide +kernel, by decide +kernel⟩
theorem ndKnA : (["knot", "above"] : List Str).Nodup := by decide +kernel
theorem ok_hung {C f1 : Addr} {d1 : FuncData} (F : Fun K "hung_up" "hung_up" sHungUp f fd) (GW : KitE P w K mg base 1 "walked" ["beside", "start"] (spWalked C) f1 d1) (ml : mg "len" = none) (mr : mg "range" = none) : FnOk P w K mg base (CXe P w) 2 f fd ["beside", "root"] (spHung C) := by
  refine F.okX scHung (fun vs H Q E h => ?_) (fun cdv A outer s H vs Q E hr h => ?_)
  . obtain ⟨b, bs, n, v, ls, rfl, _⟩ := h
    rfl
  obtain ⟨b, bs, n, v, ls, rfl, G, hv, hn, hln, hlt, q, qe⟩ := h
  refine ⟨_, pss_cons (ps_set (i := 2) scHung.nd rfl (Or.inr rfl) (pe_call GW.ok hr rfl GW.mg GW.kp GW.bd .nil passX (pa_cons (pv 0) (pa_cons (pv 1) pa_nil))))
    (pss_one (ps_ret (pe_comp (N' := ["knot", "above"]) (js := [none, some 2])
        (CompOk.free1 (x := "above") (nms := [(".0", .local), ("knot", .local), ("above", .cell)]) rfl (by decide +kernel) (by decide +kernel) rfl rfl rfl rfl (by decide +kernel) (by
            intro j i h
            match j, h with
            | 0, h => cases h
            | 1, h => cases h; exact ⟨rfl, rfl⟩) rfl (Or.inl rfl)) rfl
        (pi_range1 rfl mr (pa_cons (pe_callB call_len_seq rfl ml PySem.boot_len (pa_cons (pv 0) pa_nil)) pa_nil)) (fun _ _ _ _ => pg_name (i := 0) ndKnA rfl (Or.inl rfl)) (fun _ _ _ _ => pif_nil) (fun _ _ _ _ => pe_dget hr.units1 (pv 1) (pv 0) (fun _ _ => rfl))))), ?_⟩
  have hlb : (bs.map V.ref).length = n := by rw [List.length_map, G.len]
  refine ⟨_, rfl, _, rfl, b, bs, n, v, ls, rfl, G, hv, hn, by omega, hlt, fun d ord pa H1 s1 _ ed B hw => ?_, fun ord pa H1 s1 B hw => qe (fun z => hw ((B.free_iff hln hv).mp z)) H1 s1⟩
  have hF := (B.free_iff hln hv).mpr hw; have hat := B.hung_at hln hv hw; have pm := nodup_full B.nd B.lt hw; refine ⟨_, rfl, b, _, rfl, .inl (SqL.of (s1 _ _ G.top)), _, rfl, by omega, by rw [hlb]; omega, ?_⟩
  rw [hlb, Int.toNat_natCast]; refine comp_range (fun D i ys τ H5 => (∃ o, τ = [o, some (.ref d)]) /\ ys = ((hung n pa).take i).map vO /\ Same H1 H5 /\ H1 D = none /\ H5 D = some (.lst ys)) (fun D hD => ⟨⟨_, rfl⟩, rfl, same_new hD _, hD, upd_same⟩) ?_ ?_
  . rintro D i ys τ H5 hi p_
    refine hld fun g_ k_ => ?_; obtain ⟨⟨o, rfl⟩, rfl, s5, hD, e5⟩ := p_; refine k_ ?_
    dsimp only [gName, tAlways]
    rw [if_pos rfl]; have hm : i ∈ ord := pm.mem_iff.mpr (List.mem_range.mpr hi); refine ⟨_, rfl, _, rfl, d, vO (pa i), rfl, .inl ⟨_, .inl (i : Int), .inl (s5 _ _ ed), rfl, (kvW_some hm).symm⟩, e5, smallt (by rw [List.length_map, List.length_take]; omega), Nx.mk hi ⟨⟨_, rfl⟩, ?_, same_upd s5 hD _, hD, upd_same⟩⟩
    rw [List.take_add_one, hung_get hi, List.map_append]
    rfl
  . rintro D ys τ H5 p_
    refine hld fun g_ k_ => ?_; obtain ⟨_, rfl, s5, hD, e5⟩ := p_; refine k_ ?_; rw [List.take_of_length_le (by rw [hung_len]; exact Nat.le_refl _), hat] at e5
    exact q hF D H5 (s1.trans s5) (s1.free hD) e5
theorem scRootedAt : FnScope ["tree", "knot"] ["tree", "knot"] (defScope sRootedAt) := ⟨rfl, rfl, rfl, by decide +kernel, rfl, by decide +kernel, by decide +kernel⟩
theorem ok_rootedAt {C f1 f2 : Addr} {d1 d2 : FuncData} (F : Fun K "rooted_at" "rooted_at" sRootedAt f fd) (GB : KitE P w K mg base 1 "knots_beside" ["tree"] (spBeside C) f1 d1) (GU : KitE P w K mg base 2 "hung_up" ["beside", "root"] (spHung C) f2 d2) : FnOk P w K mg base (CXe P w) 3 f fd ["tree", "knot"] (spRootedAt C) := by
  refine F.okX scRootedAt (fun vs H Q E h => ?_) (fun cdv A outer s H vs Q E hr h => ?_)
  . obtain ⟨t, L, ps, c, li, v, rfl, _⟩ := h
    rfl
  obtain ⟨t, L, ps, c, li, v, rfl, G, hn, hv, q, qe⟩ := h; have hr1 : Room 1 _ := hr.mono (by decide)
  refine ⟨_, pss_one (ps_ret (pe_call GU.ok hr rfl GU.mg GU.kp GU.bd .nil passX (pa_cons (pe_call GB.ok hr1 rfl GB.mg GB.kp GB.bd .nil passX (pa_cons (pv 0) pa_nil)) (pa_cons (pv 1) pa_nil)))), ?_⟩; have hol : (ofL li).length = li.length := List.length_map _; refine ⟨_, rfl, t, L, ps, c, li, rfl, G, hn, fun hV b bs H1 s1 B => ?_, fun hV H1 s1 => qe (fun z => hV z.1) H1 s1⟩; refine ⟨_, rfl, b, bs, li.length + 1, v, ofL li, rfl, B, hv, by omega, by rw [hol], hV.ofL, fun hF p H2 s2 hp ep => q ⟨hV, hF⟩ p H2 (s1.trans s2) (s1.free hp) ep, fun hF H2 s2 => qe (fun z => hF z.2) H2 (s1.trans s2)⟩
end
end K13
namespace K13
open PySem L2 KM KD PyProof.Rows
section
variable {P : Program} {w : World} {K : PySem.W.Frag} {mg : Str -> Option Value} {base : Heap} {f : Addr} {fd : FuncData}
theorem scFarness : FnScope ["beside", "knot", "above", "steps", "met"] ["beside", "knot"] (defScope sFarness) := ⟨rfl, rfl, rfl, by decide +kernel, rfl, by decide +kernel, by decide +kernel⟩
theorem ok_farness {C f1 : Addr} {d1 : FuncData} (F : Fun K "farness" "farness" sFarness f fd) (GW : KitE P w K mg base 1 "walked" ["beside", "start"] (spWalked C) f1 d1) (mx : mg "max" = none) : FnOk P w K mg base (CXe P w) 2 f fd ["beside", "knot"] (spFarness C) := by
  refine F.okX scFarness (fun vs H Q E h => ?_) (fun cdv A outer s H vs Q E hr h => ?_)
  . obtain ⟨b, bs, n, v, ls, rfl, _⟩ := h
    rfl
  obtain ⟨b, bs, n, v, ls, rfl, G, hv, hn, hln, hlt, q, qe⟩ := h
  refine ⟨_, pss_cons (ps_set (i := 2) scFarness.nd rfl (Or.inl rfl) (pe_call GW.ok hr rfl GW.mg GW.kp GW.bd .nil passX (pa_cons (pv 0) (pa_cons (pv 1) pa_nil))))
    (pss_cons (ps_set (i := 3) scFarness.nd rfl (Or.inl rfl) pe_dnewK)
    (pss_cons (ps_for ownX rfl (pi_dict (pv 2)) (pg_name (i := 4) scFarness.nd rfl (Or.inl rfl))
      (pss_one (ps_dput hr.units1 (pv 3) (pv 4) (pe_ifExp (pt_cmp (pc_isN (pe_dget hr.units1 (pv 2) (pv 4) (fun _ _ => rfl)))) pe_int
        (pe_op op_add (pe_dget hr.units1 (pv 3) (pe_dget hr.units1 (pv 2) (pv 4) (fun _ _ => rfl)) (fun _ _ => rfl)) pe_int)) rfl)))
    (pss_one (ps_ret (pe_callB (call_maxV rfl) rfl mx PyProof.Rows.boot_max (pa_cons (pe_bm0 PySem.F.plainAttrs_dict PySem.F.slot_dict_values PySem.F.type_dict_values mt_values (pv 3)) pa_nil)))))), ?_⟩
  refine ⟨_, rfl, _, rfl, b, bs, n, v, ls, rfl, G, hv, hn, by omega, hlt, fun d ord pa H1 s1 hd ed B hw => ?_, fun ord pa H1 s1 B hw => qe (fun z => hw ((B.free_iff hln hv).mp z)) H1 s1⟩
  have hF := (B.free_iff hln hv).mpr hw; have pm := nodup_full B.nd B.lt hw; have R := B.rooted hw hln; refine hld fun g_ k_ => ?_; obtain ⟨hla, ⟨rk, T⟩, fo⟩ := id R; refine k_ ?_; obtain ⟨dp, hdp⟩ := dep_fn T; rw [hla] at hdp; have hin : ∀ k, k ∈ ord ↔ k < n := fun k => by rw [pm.mem_iff, List.mem_range]
  intro st hst; have hst0 : H st = none := s1.free hst; have hds : d ≠ st := ne_of_none ed hst; have ed2 : (upd H1 st (.dK [])) d = some (.dK (kvW ord pa)) := by rw [upd_ne hds]; exact ed
  refine ⟨_, rfl, d, _, rfl, ed2, fun ob => ?_⟩; have hkl : (kvW ord pa).length = n := by unfold kvW; rw [List.length_map, hw]
  refine for_dict (d := d) (o := ob) (kvs := kvW ord pa) (fun i σ H5 => (∃ o4, σ = [some (.ref b), some (vN v), some (.ref d), some (.ref st), o4]) /\ Same H H5 /\ H5 d = some (.frz ob (.dK (kvW ord pa))) /\ H5 st = some (.dK (kvW (ord.take i) fun k => some (dp k))))
    ⟨⟨_, rfl⟩, same_upd (s1.trans (same_new hst _)) hd _, upd_same, by rw [upd_ne (Ne.symm hds), upd_same]; rfl⟩ (fun i σ H5 _ ⟨_, _, h, _⟩ => h) ?_ ?_
  . rintro i kv σ H5 hkv p_
    refine hld fun g_ k_ => ?_; obtain ⟨⟨o4, rfl⟩, s5, e5, f5⟩ := p_; refine k_ ?_; have hkv' : (ord.map fun k : Nat => ((.inl (k : Int) : Key), vO (pa k)))[i]? = some kv := hkv; rw [List.getElem?_map] at hkv'
    cases hk : ord[i]? with
    | none => rw [hk] at hkv'; cases hkv'
    | some k =>
      rw [hk] at hkv'; have e0 : ((.inl (k : Int) : Key), vO (pa k)) = kv := Option.some.inj hkv'; subst e0; have hkm : k ∈ ord := List.mem_of_getElem? hk; have hkn : k < n := (hin k).mp hkm; have hnt := not_mem_take B.nd hk; have htk : ord.take (i + 1) = ord.take i ++ [k] := by rw [List.take_add_one, hk]; rfl
      have hsm : (kvW (ord.take i) fun k => some (dp k)).length < sizeLine := smallt (by unfold kvW; rw [List.length_map, List.length_take]; omega)
      have gd : DGet H5 d (V.int (k : Int)) (some (vO (pa k))) := .inl ⟨_, .inl (k : Int), .inr ⟨ob, e5⟩, rfl, (kvW_some hkm).symm⟩; have hhu := hung_get (pa := pa) hkn
      cases hpk : pa k with
      | none =>
        rw [hpk] at gd hhu; have h0 : dp k = 0 := (hdp k hkn).det (.root hhu); refine ⟨_, rfl, _, rfl, d, _, rfl, gd, _, rfl, iteT ⟨_, rfl, _, rfl, st, _, rfl, DPut.k (k := .inl (k : Int)) f5 hsm, ⟨_, rfl⟩, same_upd s5 hst0 _, by rw [upd_ne hds]; exact e5, ?_⟩⟩
        rw [upd_same, htk, <- kvW_put hnt]
        show some (HO.dK (putK _ _ (V.int 0))) = some (HO.dK (putK _ _ (vO (some (dp k)))))
        rw [h0]
        rfl
      | some p =>
        rw [hpk] at gd hhu; obtain ⟨hpl, _⟩ := T.up k p hhu; rw [hla] at hpl; have h0 : dp k = dp p + 1 := (hdp k hkn).det (.up hhu (hdp p hpl))
        have hp0 : 0 < i := by
          rcases Nat.eq_zero_or_pos i with z | z
          . subst z
            obtain ⟨t, ht⟩ := B.head; rw [ht] at hk; have : v = k := Option.some.inj hk; subst this; rw [B.pav] at hpk
            cases hpk
          . exact z
        refine hld fun g_ k_ => ?_; obtain ⟨j, k2, hj, hk2, hp2, _⟩ := B.up i k hp0 hk; refine k_ ?_; rw [hpk] at hp2; have : p = k2 := Option.some.inj hp2; subst this; have hpt : p ∈ ord.take i := mem_take_of hk2 hj; have gs : DGet H5 st (V.int (p : Int)) (some (vO (some (dp p)))) := .inl ⟨_, .inl (p : Int), .inl f5, rfl, (kvW_some (pa := fun k => some (dp k)) hpt).symm⟩; refine ⟨_, rfl, _, rfl, d, _, rfl, gd, _, rfl, iteF ⟨_, rfl, _, rfl, _, rfl, d, _, rfl, gd, st, _, rfl, gs, _, _, rfl, rfl, _, rfl, _, rfl, st, _, rfl, DPut.k (k := .inl (k : Int)) f5 hsm, ⟨_, rfl⟩, same_upd s5 hst0 _, by rw [upd_ne hds]; exact e5, ?_⟩⟩
        rw [upd_same, htk, <- kvW_put hnt]
        show some (HO.dK (putK _ _ (V.int (((dp p : Nat) : Int) + 1)))) = some (HO.dK (putK _ _ (vO (some (dp k)))))
        rw [h0]
        rfl
  . rintro σ H5 p_
    refine hld fun g_ k_ => ?_; obtain ⟨⟨o4, rfl⟩, s5, e5, f5⟩ := p_; refine k_ ?_; rw [hkl, <- hw, List.take_length] at f5
    have hne : ord.map dp ≠ [] := fun z => by
      have : ord = [] := List.map_eq_nil_iff.mp z; rw [this] at hw
      simp at hw
      omega
    obtain ⟨m, hm, hle⟩ := exists_most _ hne; refine ⟨_, rfl, .inr (.inr (.inl ⟨rfl, .inl ⟨_, f5⟩⟩)), st, _, rfl, rfl, f5, fun p hp => ?_⟩; have hsp : st ≠ p := ne_of_none f5 hp; refine ⟨p, st, _, (ord.map dp).map fun n : Nat => (n : Int), (m : Int), rfl, upd_same, by rw [upd_ne hsp]; exact f5, kvW_vals ord dp, List.mem_map_of_mem hm, fun x hx => ?_, ?_⟩
    . obtain ⟨y, hy, rfl⟩ := List.mem_map.mp hx
      have := hle y hy
      omega
    . have E : Ecc n ls v m := ecc_of R (fun k e hk he => by
        rw [he.det (hdp k hk)]; exact hle _ (List.mem_map_of_mem ((hin k).mpr hk))) (by
        obtain ⟨k, hk, e⟩ := List.mem_map.mp hm; have hk' := (hin k).mp hk; exact ⟨k, hk', by rw [<- e]; exact hdp k hk'⟩)
      rw [<- ecc_eq hF hv E]; exact q hF _ (s5.trans (same_new hp _))
end
end K13
namespace K13
open PySem L2 KM KD PyProof.Rows
section
variable {P : Program} {w : World} {K : PySem.W.Frag} {mg : Str -> Option Value} {base : Heap} {f : Addr} {fd : FuncData}
theorem scMiddles : FnScope ["tree", "beside", "farnesses", "least"] ["tree"] (defScope sMiddles) := ⟨rfl, rfl, rfl, by decide +kernel, rfl, by decide +kernel, by decide +kernel⟩
theorem ndKBm : (["knot", "beside"] : List Str).Nodup := by decide +kernel
theorem ndKFL : (["knot", "far", "least"] : List Str).Nodup := by decide +kernel
theorem ok_middles {C f1 f2 : Addr} {d1 d2 : FuncData} (F : Fun K "middles" "middles" sMiddles f fd) (GB : KitE P w K mg base 1 "knots_beside" ["tree"] (spBeside C) f1 d1) (GF : KitE P w K mg base 2 "farness" ["beside", "knot"] (spFarness C) f2 d2)
    (ml : mg "len" = none) (mr : mg "range" = none) (mm : mg "min" = none) (me : mg "enumerate" = none) : FnOk P w K mg base (CXe P w) 3 f fd ["tree"] (spMiddles C) := by
  refine F.okX scMiddles (fun vs H Q E h => ?_) (fun cdv A outer s H vs Q E hr h => ?_)
  . obtain ⟨t, L, ps, c, li, rfl, _⟩ := h
    rfl
  obtain ⟨t, L, ps, c, li, rfl, G, hn, q, qe⟩ := h; have hr1 : Room 1 _ := hr.mono (by decide)
  refine ⟨_, pss_cons (ps_set (i := 1) scMiddles.nd rfl (Or.inr rfl) (pe_call GB.ok hr1 rfl GB.mg GB.kp GB.bd .nil passX (pa_cons (pv 0) pa_nil)))
    (pss_cons (ps_setCompE (N' := ["knot", "beside"]) (js := [none, some 1]) (i := 2) scMiddles.nd rfl (Or.inl rfl)
          (CompOk.free1 (x := "beside") (nms := [(".0", .local), ("knot", .local), ("farness", .globalImplicit), ("beside", .cell)]) rfl (by decide +kernel) (by decide +kernel) rfl rfl rfl rfl (by decide +kernel) (by
            intro j i h
            match j, h with
            | 0, h => cases h
            | 1, h => cases h; exact ⟨rfl, rfl⟩) rfl (Or.inl rfl))
          (pi_range1 rfl mr (pa_cons (pe_callB call_len_seq rfl ml PySem.boot_len (pa_cons (pv 1) pa_nil)) pa_nil)) (fun _ _ _ _ => pg_name (i := 0) ndKBm rfl (Or.inl rfl)) (fun _ _ _ _ => pif_nil)
          (fun _ _ _ _ _ pass => pe_call GF.ok hr rfl GF.mg GF.kp GF.bd .nil pass (pa_cons (pv 1) (pa_cons (pv 0) pa_nil))))
    (pss_cons (ps_set (i := 3) scMiddles.nd rfl (Or.inr rfl) (pe_callB (call_minL rfl) rfl mm PyProof.Rows.boot_min (pa_cons (pv 2) pa_nil)))
    (pss_one (ps_ret (pe_comp (N' := ["knot", "far", "least"]) (js := [none, none, some 3])
        (CompOk.free1 (x := "least") (nms := [(".0", .local), ("knot", .local), ("far", .local), ("least", .cell)]) rfl (by decide +kernel) (by decide +kernel) rfl rfl rfl rfl (by decide +kernel) (by
            intro j i h
            match j, h with
            | 0, h => cases h
            | 1, h => cases h
            | 2, h => cases h; exact ⟨rfl, rfl⟩) rfl (Or.inl rfl)) rfl
        (pi_enum rfl me (pa_cons (pv 2) pa_nil)) (fun _ _ _ _ => pg_tupC (n := 2) rfl (pgs_cons (pg_name (i := 0) ndKFL rfl (Or.inl rfl)) (pgs_cons (pg_name (i := 1) ndKFL rfl (Or.inl rfl)) pgs_nil)))
        (fun _ _ _ _ => pif_one (pt_cmpR op_eq (pv 1) (pv 2) (nomark _))) (fun _ _ _ _ => pv 0)))))), ?_⟩
  have hol : (ofL li).length = li.length := List.length_map _; refine ⟨_, rfl, t, L, ps, c, li, rfl, G, hn, fun hV b bs H1 s1 B => ?_, fun hV H1 s1 => qe (fun z => hV z.1) H1 s1⟩; have hlb : (bs.map V.ref).length = li.length + 1 := by rw [List.length_map, B.len]
  refine ⟨_, rfl, b, _, rfl, .inl (SqL.of B.top), _, rfl, by omega, by rw [hlb]; omega, ?_⟩
  rw [hlb, Int.toNat_natCast]
  by_cases hF : IsFree (li.length + 1) (ofL li)
  . have hel := eccs_len (li.length + 1) (ofL li)
    refine comp_range (fun D i ys τ H5 => (∃ o, τ = [o, some (.ref b)]) /\ ys = ((eccs (li.length + 1) (ofL li)).take i).map vN /\ Same H1 H5 /\ H1 D = none /\ H5 D = some (.lst ys)) (fun D hD => ⟨⟨_, rfl⟩, rfl, same_new hD _, hD, upd_same⟩) ?_ ?_
    . rintro D i ys τ H5 hi p_
      refine hld fun g_ k_ => ?_; obtain ⟨⟨o, rfl⟩, rfl, s5, hD, e5⟩ := p_; refine k_ ?_
      dsimp only [gName, tAlways]
      rw [if_pos rfl]; refine ⟨_, rfl, _, rfl, b, bs, li.length + 1, i, ofL li, rfl, B.up s5, hi, by omega, by rw [hol], hV.ofL, fun _ H6 s6 => ?_, fun h => absurd hF h⟩
      refine ⟨s6 _ _ e5, smallt (by rw [List.length_map, List.length_take]; omega), Nx.mk hi ⟨⟨_, rfl⟩, ?_, same_upd (s5.trans s6) hD _, hD, upd_same⟩⟩
      rw [List.take_add_one, eccs_get hi, List.map_append]
      rfl
    . rintro D ys τ H5 p_
      refine hld fun g_ k_ => ?_; obtain ⟨_, rfl, s5, hD, e5⟩ := p_; refine k_ ?_; rw [List.take_of_length_le (by rw [hel]; exact Nat.le_refl _)] at e5
      obtain ⟨m, hm, hle⟩ := least_ecc (n := li.length + 1) (ofL li) (Nat.succ_pos _); have e5' := e5; rw [vN_int] at e5'; refine ⟨_, rfl, D, _, (m : Int), rfl, SqL.of e5', List.mem_map_of_mem hm, fun x hx => ?_, ?_⟩
      . obtain ⟨y, hy, rfl⟩ := List.mem_map.mp hx
        have := hle y hy
        omega
      refine ⟨_, rfl, D, rfl, ⟨_, SqL.of e5⟩, ?_⟩
      refine comp_enumF (K := K) (a := D) (xs := (eccs (li.length + 1) (ofL li)).map vN) (fun D2 i ys τ H6 => (∃ o1 o2, τ = [o1, o2, some (vN m)]) /\ ys = (midTo (li.length + 1) (ofL li) m i).map vN /\ Same H5 H6 /\ H5 D2 = none /\ H6 D2 = some (.lst ys))
        (fun D2 hD2 => ⟨⟨_, _, rfl⟩, rfl, same_new hD2 _, hD2, upd_same⟩) (fun D2 i ys τ H6 _ ⟨_, _, s6, _⟩ => SqL.of (s6 _ _ e5)) ?_ ?_
      . rintro D2 i x p ys τ H6 hx p_ hp
        refine hld fun g_ k_ => ?_; obtain ⟨⟨o1, o2, rfl⟩, rfl, s6, hD2, e6⟩ := p_; refine k_ ?_; have hx' := (List.getElem?_eq_some_iff.mp hx).1; have hil : i < li.length + 1 := by rw [List.length_map, hel] at hx'; exact hx'
        obtain ⟨y, hy, rfl⟩ := of_map hx; rw [eccs_get hil] at hy; have ey : ecc (li.length + 1) (ofL li) i = y := Option.some.inj hy; subst ey; have s7 : Same H5 (upd H6 p (.tup [.int i, vN (ecc (li.length + 1) (ofL li) i)])) := s6.trans (same_new hp _); have e7 : (upd H6 p (.tup [.int i, vN (ecc (li.length + 1) (ofL li) i)])) D2 = some (.lst ((midTo (li.length + 1) (ofL li) m i).map vN)) := same_new hp _ _ _ e6; have hml := midTo_len (li.length + 1) m i (ofL li); refine ⟨p, _, rfl, SqT.of upd_same, rfl, _, _, rfl, _, _, rfl, rfl, ?_⟩; refine ⟨_, rfl, _, rfl, rfl, decide (ecc (li.length + 1) (ofL li) i = m), ?_, ?_⟩
        . show V.bl (decide (vN (ecc (li.length + 1) (ofL li) i) = vN m)) = _
          congr 1
          by_cases z : ecc (li.length + 1) (ofL li) i = m
          . rw [z]; exact (decide_eq_true rfl).trans (decide_eq_true rfl).symm
          . rw [decide_eq_false z, decide_eq_false fun y => z (by have := V.int.inj y; omega)]
        by_cases z : ecc (li.length + 1) (ofL li) i = m
        . rw [decide_eq_true z]
          try dsimp only
          rw [if_pos rfl]; refine ⟨_, rfl, e7, smallt (by rw [List.length_map]; omega), Nx.mk hx' ⟨⟨_, _, rfl⟩, ?_, same_upd s7 hD2 _, hD2, upd_same⟩⟩
          rw [midTo_hit z, List.map_append]
          rfl
        . rw [decide_eq_false z]
          try dsimp only
          rw [if_neg Bool.false_ne_true]; exact Nx.mk hx' ⟨⟨_, _, rfl⟩, by rw [midTo_miss z], s7, hD2, e7⟩
      . rintro D2 ys τ H6 p_
        refine hld fun g_ k_ => ?_; obtain ⟨_, rfl, s6, hD2, e6⟩ := p_; refine k_ ?_; rw [List.length_map, hel, midTo_all hm hle] at e6; have s16 := s1.trans (s5.trans s6); exact q ⟨hV, hF⟩ D2 H6 s16 ((s1.trans s5).free hD2) e6
  . refine comp_range (fun D i ys τ H5 => i = 0 /\ (∃ o, τ = [o, some (.ref b)]) /\ Same H1 H5) (fun D hD => ⟨rfl, ⟨_, rfl⟩, same_new hD _⟩) ?_ ?_
    . rintro D i ys τ H5 hi p_
      refine hld fun g_ k_ => ?_; obtain ⟨rfl, ⟨o, rfl⟩, s5⟩ := p_; refine k_ ?_
      dsimp only [gName, tAlways]
      rw [if_pos rfl]; exact ⟨_, rfl, _, rfl, b, bs, li.length + 1, 0, ofL li, rfl, B.up s5, hi, by omega, by rw [hol], hV.ofL, fun h => absurd h hF, fun h H6 s6 => qe (fun z => hF z.2) _ (s1.trans (s5.trans s6))⟩
    . rintro D ys τ H5 ⟨z, _⟩
      omega
end
end K13
namespace K13
open PySem L2 KM KD PyProof.Rows
section
variable {P : Program} {w : World} {K : PySem.W.Frag} {mg : Str -> Option Value} {base : Heap} {f : Addr} {fd : FuncData}
theorem scFreeForm : FnScope ["tree", "roots", "parts"] ["tree"] (defScope sFreeForm) := ⟨rfl, rfl, rfl, by decide +kernel, rfl, by decide +kernel, by decide +kernel⟩
theorem ok_freeForm {C f1 f2 f3 f4 : Addr} {d1 d2 d3 d4 : FuncData} (F : Fun K "free_form" "free_form" sFreeForm f fd) (GM : KitE P w K mg base 3 "middles" ["tree"] (spMiddles C) f1 d1) (GR : KitE P w K mg base 3 "rooted_at" ["tree", "knot"] (spRootedAt C) f2 d2)
    (GF : KitE P w K mg base 3 "form_of" ["above"] (spFormX C) f3 d3) (GK : KitD P w K mg base 2 "knot_forms" ["above", "marked"] (spKnots C) f4 d4) (ml : mg "len" = none) (ms : mg "sorted" = none) : FnOk P w K mg base (CXe P w) 4 f fd ["tree"] (spFreeForm C) := by
  refine F.okX scFreeForm (fun vs H Q E h => ?_) (fun cdv A outer s H vs Q E hr h => ?_)
  . obtain ⟨t, L, ps, c, li, rfl, _⟩ := h
    rfl
  obtain ⟨t, L, ps, c, li, rfl, G, hn, q, qe⟩ := h; have hr2 : Room 2 _ := hr.mono (by decide)
  refine ⟨_, pss_cons (ps_set (i := 1) scFreeForm.nd rfl (Or.inl rfl) (pe_call GM.ok hr rfl GM.mg GM.kp GM.bd .nil passX (pa_cons (pv 0) pa_nil)))
    (pss_cons (ps_if (pt_cmpR op_eq (pe_callB call_len_seq rfl ml PySem.boot_len (pa_cons (pv 1) pa_nil)) pe_int (nomark _))
      (pss_one (ps_ret (pe_call GF.ok hr rfl GF.mg GF.kp GF.bd .nil passX (pa_cons (pe_call GR.ok hr rfl GR.mg GR.kp GR.bd .nil passX (pa_cons (pv 0) (pa_cons (pe_ix ix_list (pv 1) pe_int (fun _ _ => rfl)) pa_nil))) pa_nil)))) pss_nil)
    (pss_cons (ps_set (i := 2) scFreeForm.nd rfl (Or.inl rfl) (pe_lst
      (pa_cons (pe_ix ix_list (pe_call GK.ok hr2 rfl GK.mg GK.kp GK.bd1 vals_non passX (pa_cons (pe_call GR.ok hr rfl GR.mg GR.kp GR.bd .nil passX (pa_cons (pv 0) (pa_cons (pe_ix ix_list (pv 1) pe_int (fun _ _ => rfl)) pa_nil))) pa_nil)) (pe_ix ix_list (pv 1) pe_int (fun _ _ => rfl)) (fun _ _ => rfl))
      (pa_cons (pe_ix ix_list (pe_call GK.ok hr2 rfl GK.mg GK.kp GK.bd1 vals_non passX (pa_cons (pe_call GR.ok hr rfl GR.mg GR.kp GR.bd .nil passX (pa_cons (pv 0) (pa_cons (pe_ix ix_list (pv 1) pe_int (fun _ _ => rfl)) pa_nil))) pa_nil)) (pe_ix ix_list (pv 1) pe_int (fun _ _ => rfl)) (fun _ _ => rfl)) pa_nil))))
    (pss_one (ps_ret (pe_bm PySem.F.plainAttrs_str PySem.F.slot_str_join PySem.F.type_str_join mt_join pe_str (pa_cons (pe_callB call_sortedS rfl ms boot_sorted (pa_cons (pv 2) pa_nil)) pa_nil)))))), ?_⟩
  refine ⟨_, rfl, t, L, ps, c, li, rfl, G, hn, fun hF rt H1 s1 hrt ert => ?_, fun hF H1 s1 => qe hF _ s1⟩; have hF2 := hF.2; have G1 := G.up s1; obtain ⟨n, hnl⟩ : ∃ n, n = li.length + 1 := ⟨_, rfl⟩; have hn0 : 0 < n := by omega
  have hff := q hF; rw [<- hnl] at ert hF2 hff
  have Q0 : ∀ (v : Nat), v < n -> ∀ (p : Addr) (H3 : Hp), H3 p = some (.lst ((At n (ofL li) v).map vO)) -> H3 p = some (.lst (((At n (ofL li) v).map toI).map vI)) /\ ((At n (ofL li) v).map toI).length < 64 := fun v hv p H3 e => by
    obtain ⟨hal, _, _⟩ := at_spec hF2 hv; exact ⟨by rw [map_vI]; exact e, by rw [List.length_map, hal]; omega⟩
  rcases mids_cases hF2 hn0 with ⟨m, em⟩ | ⟨a, b, em, hab, hj⟩
  . have hml : m < n := mids_lt (ls := ofL li) (by rw [em]; simp)
    rw [ff_one em] at hff; rw [em] at ert; refine ⟨_, rfl, rt, _, rfl, .inl (SqL.of ert), rfl, true, rfl, iteT ?_⟩; refine ⟨_, rfl, _, rfl, rt, _, _, _, rfl, rfl, SqL.of ert, at_map (xs := [m]) (i := 0) rfl, t, L, ps, c, li, m, rfl, G1, hn, by omega, fun _ p H2 s2 hp ep => ?_, fun h => absurd hF h⟩
    rw [<- hnl] at ep; refine hld fun g_ k_ => ?_; obtain ⟨hal, ⟨rk, T⟩, _⟩ := at_spec hF2 hml; refine k_ ?_; obtain ⟨ep', hal'⟩ := Q0 m hml p H2 ep; refine ⟨p, _, rfl, ep', hal', fun ab r rk' H3 e T' s3 => ?_, fun h => absurd (rtd_of rfl T) h⟩; have e' := toI_inj e; have hr0 : r = m := by rw [<- e'] at T'; exact T.only r T'.root
    rw [<- e', hr0]; exact hff _ (s1.trans (s2.trans s3))
  . have hal : a < n := mids_lt (ls := ofL li) (by rw [em]; simp)
    have hbl : b < n := mids_lt (ls := ofL li) (by rw [em]; simp)
    rw [ff_two em] at hff; rw [em] at ert; refine ⟨_, rfl, rt, _, rfl, .inl (SqL.of ert), rfl, false, rfl, iteF ?_⟩; refine ⟨_, rfl, _, rfl, rt, _, _, _, rfl, rfl, SqL.of ert, at_map (xs := [a, b]) (i := 1) rfl, t, L, ps, c, li, b, rfl, G1, hn, by omega, fun _ p H2 s2 hp ep => ?_, fun h => absurd hF h⟩
    rw [<- hnl] at ep; refine hld fun g_ k_ => ?_; obtain ⟨hlb, ⟨rkb, Tb⟩, _⟩ := at_spec hF2 hbl; refine k_ ?_; refine hld fun g_ k_ => ?_; obtain ⟨hla, ⟨rka, Ta⟩, _⟩ := at_spec hF2 hal; refine k_ ?_; obtain ⟨ep', hpl⟩ := Q0 b hbl p H2 ep; refine ⟨p, _, none, rfl, ep', hpl, fun ab r rk' p3 H3 e T' s3 hp3 ep3 => ?_, fun h => absurd (rtd_of rfl Tb) h⟩; have e' := toI_inj e; subst e'; have s13 := s2.trans s3; refine ⟨_, rfl, rt, _, _, _, rfl, rfl, SqL.of (s13 _ _ ert), at_map (xs := [a, b]) (i := 0) rfl, p3, _, _, _, rfl, rfl, SqL.of ep3, at_map (fms_get (by rw [hlb]; exact hal)), ?_⟩
    rw [fmM_none]; refine ⟨_, rfl, _, rfl, rt, _, _, _, rfl, rfl, SqL.of (s13 _ _ ert), at_map (xs := [a, b]) (i := 0) rfl, t, L, ps, c, li, a, rfl, G1.up s13, hn, by omega, fun _ p4 H4 s4 hp4 ep4 => ?_, fun h => absurd hF h⟩
    rw [<- hnl] at ep4; obtain ⟨ep4', hpl4⟩ := Q0 a hal p4 H4 ep4; refine ⟨p4, _, none, rfl, ep4', hpl4, fun ab r rk' p5 H5 e T' s5 hp5 ep5 => ?_, fun h => absurd (rtd_of rfl Ta) h⟩; have e' := toI_inj e; subst e'; have s15 := s13.trans (s4.trans s5); refine ⟨_, rfl, rt, _, _, _, rfl, rfl, SqL.of (s15 _ _ ert), at_map (xs := [a, b]) (i := 1) rfl, p5, _, _, _, rfl, rfl, SqL.of ep5, at_map (fms_get (by rw [hla]; exact hbl)), ?_⟩
    rw [fmM_none]; refine ⟨(by show 2 <= sizeLine; decide), fun pp hpp => ?_⟩
    have l1 : (br n (ofL li) b a).length <= 2 * 64 * 64 := Nat.le_trans (br_len hF2 (near_symm hj)) (Nat.mul_le_mul (Nat.mul_le_mul (Nat.le_refl _) (by omega)) (by omega))
    have l2 : (br n (ofL li) a b).length <= 2 * 64 * 64 := Nat.le_trans (br_len hF2 hj) (Nat.mul_le_mul (Nat.mul_le_mul (Nat.le_refl _) (by omega)) (by omega))
    have epp : (upd H5 pp (.lst [vT (fm (At n (ofL li) b) a), vT (fm (At n (ofL li) a) b)])) pp = some (.lst (([br n (ofL li) b a, br n (ofL li) a b].map mkS).map V.str)) := upd_same; have s6 := same_new hpp (.lst [vT (fm (At n (ofL li) b) a), vT (fm (At n (ofL li) a) b)]); generalize upd H5 pp (.lst [vT (fm (At n (ofL li) b) a), vT (fm (At n (ofL li) a) b)]) = H6 at epp s6; refine ⟨rfl, _, rfl, pp, _, rfl, SqL.of epp, (by show 2 < 64; decide), fun l ss' h1 h2 h3 => ?_⟩
    have es := sorted_is h1 h2; subst es; refine hld fun g_ k_ => ?_; obtain ⟨x, y, exy, hxy⟩ := srt_two (br n (ofL li) b a) (br n (ofL li) a b); refine k_ ?_; rw [dash_two exy] at hff; refine ⟨_, l, (srt [br n (ofL li) b a, br n (ofL li) a b]).map mkS, rfl, rfl, SqL.of upd_same, ?_, ?_⟩
    . rw [exy]
      have e1 : (Str.ofString "-").length = 1 := by rw [dashS]; rfl
      show ((mkS x).length + ((mkS y).length + 0)) + 2 * _ <= 16777216
      rw [e1, mkS_len, mkS_len]
      omega
    . rw [exy]
      show Q (V.str (Txt.join (Str.ofString "-") [mkS x, mkS y])) _
      rw [join_dash]; exact hff _ (s1.trans (s15.trans (s6.trans (same_new h3 _))))
end
end K13
namespace K13
open PySem L2 KM KD PyProof.Rows
section
variable {P : Program} {w : World} {K : PySem.W.Frag} {mg : Str -> Option Value} {base : Heap} {f : Addr} {fd : FuncData}
theorem scLinesOf : FnScope ["_law_above", "_law_cells", "_law_lines", "_law_k", "_law_pair", "_law_cell"] ["_law_above", "_law_cells"] (defScope sLinesOf) := ⟨rfl, rfl, rfl, by decide +kernel, rfl, by decide +kernel, by decide +kernel⟩
theorem ok_linesOf (F : Fun K "_law_lines_of" "_law_lines_of" sLinesOf f fd) (ml : mg "len" = none) (mr : mg "range" = none) : FnOk P w K mg base CX0 1 f fd ["_law_above", "_law_cells"] spLinesOfN := by
  refine F.ok scLinesOf (fun vs H Q E h => ?_) (fun cdv A outer s H vs Q E hr h => ?_)
  . obtain ⟨a, b, ab, ns, rfl, _⟩ := h
    rfl
  obtain ⟨a, b, ab, ns, rfl, ha, hb, U, hn, hns, q⟩ := h
  refine ⟨_, pss_cons (ps_set (i := 2) scLinesOf.nd rfl (Or.inl rfl) (pe_lst pa_nil))
    (pss_cons (ps_for PassesOwn.never rfl (pi_range2 rfl mr (pa_cons pe_int (pa_cons (pe_callB call_len_seq rfl ml PySem.boot_len (pa_cons (pv 0) pa_nil)) pa_nil))) (pg_name (i := 3) scLinesOf.nd rfl (Or.inl rfl))
      (pss_cons (ps_set (i := 4) scLinesOf.nd rfl (Or.inl rfl) (pe_tup (pa_cons (pv 3) (pa_cons (pe_ix ix_list (pv 0) (pv 3) (fun _ _ => rfl)) pa_nil))))
      (pss_cons (ps_set (i := 5) scLinesOf.nd rfl (Or.inl rfl) (pv 3))
      (pss_cons (ps_if (pt_cmpR op_lt (pv 3) (pe_callB call_len_seq rfl ml PySem.boot_len (pa_cons (pv 1) pa_nil)) (nomark _)) (pss_one (ps_set (i := 5) scLinesOf.nd rfl (Or.inl rfl) (pe_ix ix_list (pv 1) (pv 3) (fun _ _ => rfl)))) pss_nil)
      (pss_cons (ps_if (pt_cmpR op_eq (pe_op op_mod (pe_op op_fdiv (pv 5) pe_int) pe_int) pe_int (nomark _)) (pss_one (ps_set (i := 4) scLinesOf.nd rfl (Or.inl rfl) (pe_tup (pa_cons (pe_ix ix_list (pv 0) (pv 3) (fun _ _ => rfl)) (pa_cons (pv 3) pa_nil))))) pss_nil)
      (pss_one (ps_expr (pe_bm PySem.F.plainAttrs_list PySem.F.slot_list_insert PySem.F.type_list_insert mt_insert (pv 2) (pa_cons (pe_op op_mod (pe_op op_fdiv (pv 5) pe_int) (pe_op op_add (pe_callB call_len_seq rfl ml PySem.boot_len (pa_cons (pv 2) pa_nil)) pe_int)) (pa_cons (pv 4) pa_nil))))))))))
    (pss_one (ps_ret (pv 2)))), ?_⟩
  have hl : (ab.map vO).length = ab.length := List.length_map _; have hlb : (ns.map V.int).length = ns.length := List.length_map _; refine ⟨(by show 0 <= sizeLine; decide), fun L hL => ?_⟩
  have s1 : Same H (upd H L (.lst [])) := same_new hL _; refine ⟨_, rfl, a, _, rfl, .inl (SqL.of (s1 _ _ ha)), _, _, rfl, ⟨by omega, by omega, by omega, by rw [hl]; omega⟩, ?_⟩
  rw [show ((((ab.map vO).length : Nat) : Int) - 1).toNat = ab.length - 1 by rw [hl]; omega]
  have hU := U.pos
  refine for_range (lo := 1) (n := ab.length - 1) (fun i σ H3 => (∃ o3 o4 o5, σ = [some (.ref a), some (.ref b), some (.ref L), o3, o4, o5]) /\ Same H H3 /\ ∃ (ps : List Addr) (ls : Ln), LinesAt H3 L ps (toL ls) /\ (ls.map nrm).Perm ((edsTo ab (i + 1)).map nrm) /\ ls.length = i)
    ⟨⟨_, _, _, rfl⟩, s1, [], [], ⟨upd_same, rfl, (fun j c ys h => (nomatch h)), (fun ys h => (nomatch h))⟩, (by rw [edsTo_one U.root]), rfl⟩ ?_ ?_
  . rintro i σ H3 hi p_
    refine hld fun g_ k_ => ?_; obtain ⟨⟨o3, o4, o5, rfl⟩, s3, ps, ls, G, hpm, hli⟩ := p_; refine k_ ?_; have ek : (1 : Int) + ((i : Nat) : Int) = ((i + 1 : Nat) : Int) := by omega
    rw [ek]; have hk : i + 1 < ab.length := by omega
    obtain ⟨p, hp⟩ : ∃ p, ab[i + 1]? = some (some p) := by
      cases z : ab[i + 1] with
      | none => exact absurd (U.tree.only (i + 1) (by rw [List.getElem?_eq_getElem hk, z])) (by omega)
      | some p => exact ⟨p, by rw [List.getElem?_eq_getElem hk, z]⟩
    have hst := edsTo_step hp; have ha3 := s3 _ _ ha; have hb3 := s3 _ _ hb; refine ⟨_, rfl, _, rfl, _, rfl, a, _, _, _, rfl, rfl, SqL.of ha3, at_map hp, (by show 2 <= sizeLine; decide), fun p1 hp1 => ?_⟩
    have s4 := same_new hp1 (.tup [V.int ((i + 1 : Nat) : Int), vO (some p)]); have e1 : (upd H3 p1 (.tup [V.int ((i + 1 : Nat) : Int), vO (some p)])) p1 = some (.tup (vP (((i + 1 : Nat) : Int), (p : Int)))) := upd_same; generalize upd H3 p1 (.tup [V.int ((i + 1 : Nat) : Int), vO (some p)]) = H4 at s4 e1; refine ⟨_, rfl, ?_⟩; refine ⟨_, rfl, _, rfl, b, _, rfl, .inl (SqL.of (s4 _ _ hb3)), _, _, rfl, rfl, _, rfl, ?_⟩; refine ite2 (fun c => ?_) (fun c => ?_)
    . have c' := of_decide_eq_true c
      rw [hlb] at c'; have hx : ns[i + 1]? = some ns[i + 1] := List.getElem?_eq_getElem (by omega)
      refine ⟨_, rfl, _, rfl, b, _, _, _, rfl, rfl, SqL.of (s4 _ _ hb3), at_map hx, ?_⟩; generalize ns[i + 1] = cv; refine ⟨_, rfl, _, _, rfl, rfl, ⟨by decide, by decide⟩, _, _, rfl, rfl, (by show (0 : Int) < 2; decide), rfl, _, rfl, ?_⟩
      refine ite2 (fun c2 => ?_) (fun c2 => ?_)
      . refine ⟨_, rfl, _, rfl, a, _, _, _, rfl, rfl, SqL.of (s4 _ _ ha3), at_map hp, _, rfl, (by show 2 <= sizeLine; decide), fun p2 hp2 => ?_⟩
        have s5 := s4.trans (same_new hp2 (.tup [vO (some p), V.int ((i + 1 : Nat) : Int)])); have e2 : (upd H4 p2 (.tup [vO (some p), V.int ((i + 1 : Nat) : Int)])) p2 = some (.tup (vP ((p : Int), ((i + 1 : Nat) : Int)))) := upd_same; have G5 := G.up s5; have hlL : (ps.map V.ref).length = ls.length := by rw [List.length_map, G.len, List.length_map, toL_len]
        refine ⟨_, rfl, .inl ⟨rfl, _, SqL.of G5.top⟩, _, rfl, _, _, rfl, rfl, ⟨by decide, by decide⟩, _, rfl, L, _, rfl, .inl (SqL.of G5.top), _, _, rfl, rfl, _, _, rfl, rfl, ?_, _, rfl, L, _, _, _, rfl, rfl, G5.top, ?_, ?_, smallt (by rw [hlL]; omega), ?_⟩
        . show (0 : Int) < (((ps.map V.ref).length : Nat) : Int) + 1
          omega
        . exact Int.emod_nonneg _ (by omega)
        . exact Int.le_of_lt_add_one (Int.emod_lt_of_pos _ (by omega))
        refine ⟨⟨_, _, _, rfl⟩, same_upd (s3.trans s5) hL _, _, _, lines_ins G5 (p, i + 1) e2 _ ?_, ?_, ?_⟩
        . have h1 := Int.emod_lt_of_pos ((cv / 5)) (show (0 : Int) < (((ps.map V.ref).length : Nat) : Int) + 1 by omega)
          have h2 := Int.emod_nonneg ((cv / 5)) (show (((ps.map V.ref).length : Nat) : Int) + 1 ≠ 0 by omega)
          rw [hlL] at h1 h2
          show ((cv / 5) % ((((ps.map V.ref).length : Nat) : Int) + 1)).toNat <= ls.length
          rw [hlL]
          omega
        . refine ((perm_ins2 ls (p, i + 1) _).map nrm).trans ?_
          rw [hst, List.map_append, List.map_append]; refine List.Perm.append hpm ?_
          show [nrm (p, i + 1)].Perm [nrm (i + 1, p)]
          rw [nrm_flip]
        . rw [(perm_ins2 ls (p, i + 1) _).length_eq, List.length_append, hli]
          rfl
      . skip
        have G5 := G.up s4; have hlL : (ps.map V.ref).length = ls.length := by rw [List.length_map, G.len, List.length_map, toL_len]
        refine ⟨_, rfl, .inl ⟨rfl, _, SqL.of G5.top⟩, _, rfl, _, _, rfl, rfl, ⟨by decide, by decide⟩, _, rfl, L, _, rfl, .inl (SqL.of G5.top), _, _, rfl, rfl, _, _, rfl, rfl, ?_, _, rfl, L, _, _, _, rfl, rfl, G5.top, ?_, ?_, smallt (by rw [hlL]; omega), ?_⟩
        . show (0 : Int) < (((ps.map V.ref).length : Nat) : Int) + 1
          omega
        . exact Int.emod_nonneg _ (by omega)
        . exact Int.le_of_lt_add_one (Int.emod_lt_of_pos _ (by omega))
        refine ⟨⟨_, _, _, rfl⟩, same_upd (s3.trans s4) hL _, _, _, lines_ins G5 (i + 1, p) e1 _ ?_, ?_, ?_⟩
        . have h1 := Int.emod_lt_of_pos ((cv / 5)) (show (0 : Int) < (((ps.map V.ref).length : Nat) : Int) + 1 by omega)
          have h2 := Int.emod_nonneg ((cv / 5)) (show (((ps.map V.ref).length : Nat) : Int) + 1 ≠ 0 by omega)
          rw [hlL] at h1 h2
          show ((cv / 5) % ((((ps.map V.ref).length : Nat) : Int) + 1)).toNat <= ls.length
          rw [hlL]
          omega
        . refine ((perm_ins2 ls (i + 1, p) _).map nrm).trans ?_
          rw [hst, List.map_append, List.map_append]; refine List.Perm.append hpm ?_
          show [nrm (i + 1, p)].Perm [nrm (i + 1, p)]
          exact .refl _
        . rw [(perm_ins2 ls (i + 1, p) _).length_eq, List.length_append, hli]
          rfl
    . obtain ⟨cv, hcv⟩ : ∃ cv : Int, cv = ((i + 1 : Nat) : Int) := ⟨_, rfl⟩
      refine ⟨_, rfl, _, _, rfl, rfl, ⟨by decide, by decide⟩, _, _, rfl, rfl, (by show (0 : Int) < 2; decide), rfl, _, rfl, ?_⟩
      refine ite2 (fun c2 => ?_) (fun c2 => ?_)
      . refine ⟨_, rfl, _, rfl, a, _, _, _, rfl, rfl, SqL.of (s4 _ _ ha3), at_map hp, _, rfl, (by show 2 <= sizeLine; decide), fun p2 hp2 => ?_⟩
        have s5 := s4.trans (same_new hp2 (.tup [vO (some p), V.int ((i + 1 : Nat) : Int)])); have e2 : (upd H4 p2 (.tup [vO (some p), V.int ((i + 1 : Nat) : Int)])) p2 = some (.tup (vP ((p : Int), ((i + 1 : Nat) : Int)))) := upd_same; have G5 := G.up s5; have hlL : (ps.map V.ref).length = ls.length := by rw [List.length_map, G.len, List.length_map, toL_len]
        refine ⟨_, rfl, .inl ⟨rfl, _, SqL.of G5.top⟩, _, rfl, _, _, rfl, rfl, ⟨by decide, by decide⟩, _, rfl, L, _, rfl, .inl (SqL.of G5.top), _, _, rfl, rfl, _, _, rfl, rfl, ?_, _, rfl, L, _, _, _, rfl, rfl, G5.top, ?_, ?_, smallt (by rw [hlL]; omega), ?_⟩
        . show (0 : Int) < (((ps.map V.ref).length : Nat) : Int) + 1
          omega
        . exact Int.emod_nonneg _ (by omega)
        . exact Int.le_of_lt_add_one (Int.emod_lt_of_pos _ (by omega))
        refine ⟨⟨_, _, _, rfl⟩, same_upd (s3.trans s5) hL _, _, _, lines_ins G5 (p, i + 1) e2 _ ?_, ?_, ?_⟩
        . have h1 := Int.emod_lt_of_pos ((((i + 1 : Nat) : Int) / 5)) (show (0 : Int) < (((ps.map V.ref).length : Nat) : Int) + 1 by omega)
          have h2 := Int.emod_nonneg ((((i + 1 : Nat) : Int) / 5)) (show (((ps.map V.ref).length : Nat) : Int) + 1 ≠ 0 by omega)
          rw [hlL] at h1 h2
          show ((((i + 1 : Nat) : Int) / 5) % ((((ps.map V.ref).length : Nat) : Int) + 1)).toNat <= ls.length
          rw [hlL]
          omega
        . refine ((perm_ins2 ls (p, i + 1) _).map nrm).trans ?_
          rw [hst, List.map_append, List.map_append]; refine List.Perm.append hpm ?_
          show [nrm (p, i + 1)].Perm [nrm (i + 1, p)]
          rw [nrm_flip]
        . rw [(perm_ins2 ls (p, i + 1) _).length_eq, List.length_append, hli]
          rfl
      . skip
        have G5 := G.up s4; have hlL : (ps.map V.ref).length = ls.length := by rw [List.length_map, G.len, List.length_map, toL_len]
        refine ⟨_, rfl, .inl ⟨rfl, _, SqL.of G5.top⟩, _, rfl, _, _, rfl, rfl, ⟨by decide, by decide⟩, _, rfl, L, _, rfl, .inl (SqL.of G5.top), _, _, rfl, rfl, _, _, rfl, rfl, ?_, _, rfl, L, _, _, _, rfl, rfl, G5.top, ?_, ?_, smallt (by rw [hlL]; omega), ?_⟩
        . show (0 : Int) < (((ps.map V.ref).length : Nat) : Int) + 1
          omega
        . exact Int.emod_nonneg _ (by omega)
        . exact Int.le_of_lt_add_one (Int.emod_lt_of_pos _ (by omega))
        refine ⟨⟨_, _, _, rfl⟩, same_upd (s3.trans s4) hL _, _, _, lines_ins G5 (i + 1, p) e1 _ ?_, ?_, ?_⟩
        . have h1 := Int.emod_lt_of_pos ((((i + 1 : Nat) : Int) / 5)) (show (0 : Int) < (((ps.map V.ref).length : Nat) : Int) + 1 by omega)
          have h2 := Int.emod_nonneg ((((i + 1 : Nat) : Int) / 5)) (show (((ps.map V.ref).length : Nat) : Int) + 1 ≠ 0 by omega)
          rw [hlL] at h1 h2
          show ((((i + 1 : Nat) : Int) / 5) % ((((ps.map V.ref).length : Nat) : Int) + 1)).toNat <= ls.length
          rw [hlL]
          omega
        . refine ((perm_ins2 ls (i + 1, p) _).map nrm).trans ?_
          rw [hst, List.map_append, List.map_append]; refine List.Perm.append hpm ?_
          show [nrm (i + 1, p)].Perm [nrm (i + 1, p)]
          exact .refl _
        . rw [(perm_ins2 ls (i + 1, p) _).length_eq, List.length_append, hli]
          rfl
  . rintro σ H3 p_
    refine hld fun g_ k_ => ?_; obtain ⟨⟨o3, o4, o5, rfl⟩, s3, ps, ls, G, hpm, hli⟩ := p_; refine k_ ?_; rw [show ab.length - 1 + 1 = ab.length by omega] at hpm
    exact ⟨_, rfl, q L ps ls H3 s3 hL G hpm⟩
end
end K13
namespace K13
open PySem L2 KM KD PyProof.Rows
section
variable {P : Program} {w : World} {K : PySem.W.Frag} {mg : Str -> Option Value} {base : Heap} {f : Addr} {fd : FuncData}
theorem scNearOf : FnScope ["_law_many", "_law_lines", "_law_rows", "_law_one", "_law_other"] ["_law_many", "_law_lines"] (defScope sNearOf) := ⟨rfl, rfl, rfl, by decide +kernel, rfl, by decide +kernel, by decide +kernel⟩
theorem ndLkN : (["_law_k"] : List Str).Nodup := by decide +kernel
theorem ok_nearOf (F : Fun K "_law_near_of" "_law_near_of" sNearOf f fd) (mr : mg "range" = none) : FnOk P w K mg base CX0 1 f fd ["_law_many", "_law_lines"] spNearOf := by
  refine F.ok scNearOf (fun vs H Q E h => ?_) (fun cdv A outer s H vs Q E hr h => ?_)
  . obtain ⟨L, ps, n, ls, rfl, _⟩ := h
    rfl
  obtain ⟨L, ps, n, ls, rfl, G, hlt, hn, hll, q⟩ := h
  refine ⟨_, pss_cons (ps_setComp (N' := ["_law_k"]) (js := [none]) (i := 2) scNearOf.nd rfl (Or.inl rfl) (CompOk.plain rfl (by decide +kernel) (by decide +kernel) rfl (by decide)) rfl
        (pi_range1 rfl mr (pa_cons (pv 0) pa_nil)) (fun _ _ _ _ => pg_name (i := 0) ndLkN rfl (Or.inl rfl)) (fun _ _ _ _ => pif_nil) (fun _ _ _ _ => pe_lst pa_nil))
    (pss_cons (ps_for PassesOwn.never rfl (pi_list (pv 1)) (pg_tup rfl (pgs_cons (pg_name (i := 3) scNearOf.nd rfl (Or.inl rfl)) (pgs_cons (pg_name (i := 4) scNearOf.nd rfl (Or.inl rfl)) pgs_nil)))
      (pss_cons (ps_expr (pe_bm PySem.F.plainAttrs_list PySem.F.slot_list_append PySem.F.type_list_append mt_append (pe_ix ix_list (pv 2) (pv 3) (fun _ _ => rfl)) (pa_cons (pv 4) pa_nil)))
      (pss_one (ps_expr (pe_bm PySem.F.plainAttrs_list PySem.F.slot_list_append PySem.F.type_list_append mt_append (pe_ix ix_list (pv 2) (pv 4) (fun _ _ => rfl)) (pa_cons (pv 3) pa_nil))))))
    (pss_one (ps_ret (pv 2)))), ?_⟩
  have hpl : ps.length = ls.length := by rw [G.len, List.length_map, toL_len]
  have hl : (ps.map V.ref).length = ls.length := by rw [List.length_map, hpl]
  refine ⟨_, rfl, _, rfl, by omega, by omega, ?_⟩
  rw [Int.toNat_natCast]
  refine comp_range (fun D i ys τ H2 => (∃ o, τ = [o]) /\ ∃ bs : List Addr, ys = bs.map V.ref /\ bs.length = i /\ bs.Nodup /\ Same H H2 /\ H D = none /\ H2 D = some (.lst ys) /\ ∀ b ∈ bs, H b = none /\ H2 b = some (.lst []) /\ b ≠ D)
    (fun D hD => ⟨⟨_, rfl⟩, [], rfl, rfl, List.nodup_nil, same_new hD _, hD, upd_same, fun b hb => (nomatch hb)⟩) ?_ ?_
  . rintro D i ys τ H2 hi p_
    refine hld fun g_ k_ => ?_; obtain ⟨⟨o, rfl⟩, bs, rfl, hbi, nd, s2, hD, e2, each⟩ := p_; refine k_ ?_
    dsimp only [gName, tAlways]
    rw [if_pos rfl]; refine ⟨(by show 0 <= sizeLine; decide), fun p hp => ?_⟩
    have hpD : D ≠ p := ne_of_none e2 hp; refine ⟨by rw [upd_ne hpD]; exact e2, smallt (by rw [List.length_map]; omega), Nx.mk hi ⟨⟨_, rfl⟩, bs ++ [p], by rw [List.map_append]; rfl, by rw [List.length_append, hbi]; rfl, ?_, ?_, hD, upd_same, fun b hb => ?_⟩⟩
    . rw [List.nodup_append]
      refine ⟨nd, by simp, fun b hb b' hb' e => ?_⟩
      rw [List.mem_singleton] at hb'; subst hb' e; rw [(each _ hb).2.1] at hp
      cases hp
    . exact same_upd (s2.trans (same_new hp _)) hD _
    . rcases List.mem_append.mp hb with h | h
      . obtain ⟨h1, h2, h3⟩ := each b h
        exact ⟨h1, by rw [upd_ne h3, upd_ne (ne_of_none h2 hp)]; exact h2, h3⟩
      . rw [List.mem_singleton] at h
        subst h; exact ⟨s2.free hp, by rw [upd_ne (Ne.symm hpD), upd_same], Ne.symm hpD⟩
  rintro D ys τ H2 p_
  refine hld fun g_ k_ => ?_; obtain ⟨_, bs, rfl, hbl, nd, s2, hD, e2, each⟩ := p_; refine k_ ?_; have B0 : LsAt H H2 D bs (near (ls.take 0)) := ⟨s2, e2, nd, fun b hb => (each b hb).1, hD, fun k b h => (each b (List.mem_of_getElem? h)).2.1⟩; have hbm : (bs.map V.ref).length = n := by rw [List.length_map, hbl]
  refine ⟨_, rfl, L, rfl, ⟨_, SqL.of (s2 _ _ G.top)⟩, for_list (K := K) (a := L) (xs := ps.map V.ref) (fun i σ H3 => (∃ o3 o4, σ = [some (vN n), some (.ref L), some (.ref D), o3, o4]) /\ LsAt H H3 D bs (near (ls.take i)))
    ⟨⟨_, _, rfl⟩, B0⟩ (fun i σ H3 _ ⟨_, B⟩ => SqL.of (B.same _ _ G.top)) ?_ ?_⟩
  . rintro i x σ H3 hx p_
    refine hld fun g_ k_ => ?_; obtain ⟨⟨o3, o4, rfl⟩, B⟩ := p_; refine k_ ?_; obtain ⟨d, hd, rfl⟩ := of_map hx; have hil : i < ls.length := by rw [<- hpl]; exact (List.getElem?_eq_some_iff.mp hd).1
    obtain ⟨d', hd', ed⟩ := LinesAt.at (G.up B.same) (show i < (toL ls).length by rw [toL_len]; exact hil)
    rw [hd] at hd'
    cases hd'
    have hpi : ls[i]? = some ls[i] := List.getElem?_eq_getElem hil; have hpe : (toL ls)[i]'(by rw [toL_len]; exact hil) = (((ls[i]).1 : Int), ((ls[i]).2 : Int)) := List.getElem_map _
    rw [hpe] at ed; have hlt' := hlt _ (List.mem_of_getElem? hpi); have htk : ls.take (i + 1) = ls.take i ++ [ls[i]] := by rw [List.take_add_one, hpi]; rfl
    generalize ls[i] = pq at ed hlt' htk; obtain ⟨x1, x2⟩ := pq; have hb1 : x1 < bs.length := by rw [hbl]; exact hlt'.1
    have hb2 : x2 < bs.length := by rw [hbl]; exact hlt'.2
    have hc1 := List.getElem?_eq_getElem hb1; have hc2 := List.getElem?_eq_getElem hb2; have ec1 := B.each x1 _ hc1
    have hnl : ∀ k, (near (ls.take i) k).length <= 1000 := fun k => by
      refine Nat.le_trans (near_len _ k) ?_; rw [List.length_take]
      omega
    refine ⟨d, _, rfl, SqT.of ed, rfl, _, _, rfl, _, _, rfl, rfl, ?_⟩; refine ⟨_, rfl, _, rfl, D, _, _, _, rfl, rfl, SqL.of B.top, at_map hc1, .inl ⟨rfl, _, SqL.of ec1⟩, _, rfl, bs[x1], _, _, rfl, rfl, ec1, smallt (by rw [List.length_map]; exact Nat.le_trans (hnl x1) (by decide)), ?_⟩
    have B1 := B.push (x := x2) hc1; have ec2 := B1.each x2 _ hc2; refine ⟨_, rfl, _, rfl, D, _, _, _, rfl, rfl, SqL.of B1.top, at_map hc2, .inl ⟨rfl, _, SqL.of ec2⟩, _, rfl, bs[x2], _, _, rfl, rfl, ec2, ?_, ?_⟩
    . refine smallt ?_
      rw [List.length_map]; have := hnl x2
      split
      . rw [List.length_append, List.length_singleton]; omega
      . omega
    have B2 := B1.push (x := x1) hc2; refine ⟨⟨_, _, rfl⟩, ?_⟩
    have hfun : near (ls.take (i + 1)) = fun j => if j = x2 then (if j = x1 then near (ls.take i) j ++ [x2] else near (ls.take i) j) ++ [x1] else (if j = x1 then near (ls.take i) j ++ [x2] else near (ls.take i) j) := by
      funext j
      rw [htk]; exact near_two _ x1 x2 j
    rw [hfun]; exact B2
  . rintro σ H3 p_
    refine hld fun g_ k_ => ?_; obtain ⟨⟨o3, o4, rfl⟩, B⟩ := p_; refine k_ ?_; rw [hl, List.take_length] at B; exact ⟨_, rfl, q D bs H3 B.same ⟨B.top, hbl, B.each⟩⟩
end
end K13
namespace K13
open PySem L2 KM KD PyProof.Rows
section
variable {P : Program} {w : World} {K : PySem.W.Frag} {mg : Str -> Option Value} {base : Heap} {f : Addr} {fd : FuncData}
theorem scBranch : FnScope ["_law_near", "_law_knot", "_law_back", "_law_rest", "_law_inner"] ["_law_near", "_law_knot", "_law_back"] (defScope sBranch) := ⟨rfl, rfl, rfl, by decide +kernel, rfl, by decide +kernel, by decide +kernel⟩
theorem ndOB : (["_law_one", "_law_back"] : List Str).Nodup := by decide +kernel
theorem ndONK : (["_law_one", "_law_near", "_law_knot"] : List Str).Nodup := by decide +kernel
theorem ok_branch {n : Nat} (F : Fun K "_law_branch" "_law_branch" sBranch f fd) (G : Kit P w K mg base n "_law_branch" ["_law_near", "_law_knot", "_law_back"] (spBranch n) f fd) (ms : mg "sorted" = none) :
    FnOk P w K mg base CX0 (n + 1) f fd ["_law_near", "_law_knot", "_law_back"] (spBranch (n + 1)) := by
  refine F.ok scBranch (fun vs H Q E h => ?_) (fun cdv A outer s H vs Q E hr h => ?_)
  . obtain ⟨b, bs, ls, ab, r, v, rk, bk, rfl, _⟩ := h
    rfl
  obtain ⟨b, bs, ls, ab, r, v, rk, bk, rfl, B, T, fo, hv, hn, hc, hbk, q⟩ := h
  refine ⟨_, pss_cons (ps_setComp (N' := ["_law_one", "_law_back"]) (js := [none, some 2]) (i := 3) scBranch.nd rfl (Or.inl rfl)
        (CompOk.free1 (x := "_law_back") (nms := [(".0", .local), ("_law_one", .local), ("_law_back", .cell)]) rfl (by decide +kernel) (by decide +kernel) rfl rfl rfl rfl (by decide +kernel) (by
            intro j i h
            match j, h with
            | 0, h => cases h
            | 1, h => cases h; exact ⟨rfl, rfl⟩) rfl (Or.inl rfl)) rfl
        (pi_list (pe_ix ix_list (pv 0) (pv 1) (fun _ _ => rfl))) (fun _ _ _ _ => pg_name (i := 0) ndOB rfl (Or.inl rfl)) (fun _ _ _ _ => pif_one (pt_cmpR op_ne (pv 0) (pv 1) (nomark _))) (fun _ _ _ _ => pv 0))
    (pss_cons (ps_setComp (N' := ["_law_one", "_law_near", "_law_knot"]) (js := [none, some 0, some 1]) (i := 4) scBranch.nd rfl (Or.inl rfl)
        (CompOk.free2 (x := "_law_near") (y := "_law_knot") (nms := [(".0", .local), ("_law_one", .local), ("_law_branch", .globalImplicit), ("_law_knot", .cell), ("_law_near", .cell)]) rfl (by decide +kernel) (by decide +kernel) rfl rfl rfl rfl rfl (by decide +kernel) (by
            intro j i h
            match j, h with
            | 0, h => cases h
            | 1, h => cases h; exact .inl ⟨rfl, rfl⟩
            | 2, h => cases h; exact .inr ⟨rfl, rfl⟩) rfl rfl (Or.inl rfl) (Or.inl rfl)) rfl
        (pi_list (pv 3)) (fun _ _ _ _ => pg_name (i := 0) ndONK rfl (Or.inl rfl)) (fun _ _ _ _ => pif_nil) (fun _ _ _ _ => pe_call G.ok hr rfl G.mg G.kp G.bd .nil pass0 (pa_cons (pv 1) (pa_cons (pv 0) (pa_cons (pv 2) pa_nil)))))
    (pss_one (ps_ret (pe_op op_add_str (pe_op op_add_str pe_str (pe_bm PySem.F.plainAttrs_str PySem.F.slot_str_join PySem.F.type_str_join mt_join pe_str
      (pa_cons (pe_callB call_sortedS rfl ms boot_sorted (pa_cons (pv 4) pa_nil)) pa_nil))) pe_str)))), ?_⟩
  have hvb : v < bs.length := by rw [B.len]; exact hv
  have hcv : bs[v]? = some bs[v] := List.getElem?_eq_getElem hvb; have ecv := B.each v _ hcv; generalize bs[v] = cb at hcv ecv; obtain ⟨p, hp⟩ : ∃ p : Nat -> Bool, p = fun c : Nat => decide (V.int (c : Int) ≠ V.int bk) := ⟨_, rfl⟩
  have hpt : ∀ c : Nat, p c = true ↔ ab[v]? ≠ some (some c) := fun c => by
    rw [hp, <- hbk c]
    constructor
    . intro z y
      exact of_decide_eq_true z (by rw [y])
    . intro z
      exact decide_eq_true fun y => z (V.int.inj y)
  have hpm := rest_kids T fo hv p hpt; have hkl := kids_len ab v; have hrl : ((near ls v).filter p).length <= 64 := by rw [hpm.length_eq]; omega
  have hnl : (near ls v).length <= 200 := by
    rw [(fo.near hv).length_eq, List.length_append]
    have : (par ab v).length <= 1 := by
      unfold par
      split
      . exact Nat.le_refl _
      . exact Nat.zero_le _
    omega
  refine ⟨_, rfl, _, rfl, b, _, _, _, rfl, rfl, SqL.of B.top, at_map hcv, cb, rfl, ⟨_, SqL.of ecv⟩, ?_⟩
  refine comp_listF (K := K) (a := cb) (xs := (near ls v).map vN) (fun D i ys τ H3 => (∃ o, τ = [o, some (.int bk)]) /\ ys = (((near ls v).take i).filter p).map vN /\ Same H H3 /\ H D = none /\ H3 D = some (.lst ys))
    (fun D hD => ⟨⟨_, rfl⟩, rfl, same_new hD _, hD, upd_same⟩) (fun D i ys τ H3 _ ⟨_, _, s3, _⟩ => SqL.of (s3 _ _ ecv)) ?_ ?_
  . rintro D i x ys τ H3 hx p_
    refine hld fun g_ k_ => ?_; obtain ⟨⟨o, rfl⟩, rfl, s3, hD, e3⟩ := p_; refine k_ ?_; have hx' := (List.getElem?_eq_some_iff.mp hx).1; obtain ⟨c, hci, rfl⟩ := of_map hx; have htk : (near ls v).take (i + 1) = (near ls v).take i ++ [c] := by rw [List.take_add_one, hci]; rfl
    have hfl : (((near ls v).take i).filter p).length <= 200 := by
      refine Nat.le_trans (List.length_filter_le _ _) ?_; rw [List.length_take]
      omega
    dsimp only [gName]
    have hpc : p c = (!decide (vN c = V.int bk)) := by
      rw [hp]
      show decide (¬ V.int (c : Int) = V.int bk) = _
      rw [decide_not]
      rfl
    refine ⟨_, rfl, _, rfl, rfl, p c, by rw [hpc], ?_⟩
    cases hpb : p c with
    | true =>
      rw [if_pos rfl]; refine ⟨_, rfl, e3, smallt (by rw [List.length_map]; omega), Nx.mk hx' ⟨⟨_, rfl⟩, ?_, same_upd s3 hD _, hD, upd_same⟩⟩
      rw [htk, List.filter_append, List.filter_cons_of_pos hpb, List.map_append]
      rfl
    | false =>
      rw [if_neg Bool.false_ne_true]; refine Nx.mk hx' ⟨⟨_, rfl⟩, ?_, s3, hD, e3⟩; rw [htk, List.filter_append, List.filter_cons_of_neg (by rw [hpb]; exact Bool.false_ne_true), List.filter_nil, List.append_nil]
  rintro D ys τ H3 p_
  refine hld fun g_ k_ => ?_; obtain ⟨_, rfl, s3, hD, e3⟩ := p_; refine k_ ?_; rw [List.length_map, List.take_length] at e3; generalize hrest : (near ls v).filter p = rest at e3 hpm hrl; clear hrest; have hks : ∀ c ∈ rest, ab[c]? = some (some v) := fun c hc => mem_kids.mp (hpm.mem_iff.mp hc); refine ⟨_, rfl, D, rfl, ⟨_, SqL.of e3⟩, ?_⟩
  refine comp_listF (K := K) (a := D) (xs := rest.map vN) (fun D2 i ys τ H4 => (∃ o, τ = [o, some (.ref b), some (vN v)]) /\ ys = ((rest.take i).map (fm ab)).map vT /\ Same H3 H4 /\ H3 D2 = none /\ H4 D2 = some (.lst ys))
    (fun D2 hD2 => ⟨⟨_, rfl⟩, rfl, same_new hD2 _, hD2, upd_same⟩) (fun D2 i ys τ H4 _ ⟨_, _, s4, _⟩ => SqL.of (s4 _ _ e3)) ?_ ?_
  . rintro D2 i x ys τ H4 hx p_
    refine hld fun g_ k_ => ?_; obtain ⟨⟨o, rfl⟩, rfl, s4, hD2, e4⟩ := p_; refine k_ ?_; have hx' := (List.getElem?_eq_some_iff.mp hx).1; obtain ⟨c, hci, rfl⟩ := of_map hx; have hcv' := hks c (List.mem_of_getElem? hci); have hcl := (List.getElem?_eq_some_iff.mp hcv').1; have hup := (T.up c v hcv').2
    dsimp only [gName, tAlways]
    rw [if_pos rfl]; refine ⟨_, rfl, _, rfl, _, rfl, b, bs, ls, ab, r, c, rk, ((v : Nat) : Int), rfl, (B.up (s3.trans s4)), T, fo, hcl, hn, by omega, fun d => ?_, fun H5 s5 => ⟨s5 _ _ e4, smallt (by rw [List.length_map, List.length_map, List.length_take]; omega), Nx.mk hx' ⟨⟨_, rfl⟩, ?_, same_upd (s4.trans s5) hD2 _, hD2, upd_same⟩⟩⟩
    . rw [hcv']
      constructor
      . intro z y
        exact z (by rw [Option.some.inj (Option.some.inj y)])
      . intro z y
        exact z (by rw [show v = d by omega])
    . rw [List.take_add_one, hci, List.map_append, List.map_append]
      rfl
  rintro p2 ys τ H4 p_
  refine hld fun g_ k_ => ?_; obtain ⟨_, rfl, s4, hD2, e4⟩ := p_; refine k_ ?_; rw [List.length_map, List.take_length] at e4
  have hsum : ((rest.map (fm ab)).map (·.length)).sum <= 2 * 64 * 64 := by
    rw [List.map_map, (hpm.map _).sum_nat]; have := fm_kids_len ab v; have h2 : 2 * ab.length * ab.length <= 2 * 64 * 64 := Nat.mul_le_mul (Nat.mul_le_mul (Nat.le_refl _) (by omega)) (by omega)
    exact Nat.le_trans this h2
  have hfm : fm ab v = brk (srt (rest.map (fm ab))).flatten := by
    rw [T.fm_eq hv, srt_congr (hpm.map (fm ab))]
  rw [hfm] at q; generalize hts : rest.map (fm ab) = ts at e4 hsum q; have hts64 : ts.length <= 64 := by rw [<- hts, List.length_map]; omega
  rw [<- vT_map] at e4; refine ⟨rfl, _, rfl, p2, ts.map mkS, rfl, SqL.of e4, by rw [List.length_map]; have := kids_len ab v; have := hpm.length_eq; rw [<- hts, List.length_map]; omega, fun l ss' h1 h2 h3 => ?_⟩
  have es := sorted_is h1 h2; subst es
  have el : (((srt ts).map mkS).map (·.length)).sum = (ts.map (·.length)).sum := by
    rw [len_vT]; exact ((srt_perm ts).map _).sum_nat
  have ef : (mkS (srt ts).flatten).length = (ts.map (·.length)).sum := by rw [mkS_len, srt_len]
  have e0 : (Str.ofString "").length = 0 := by rw [ep]; rfl
  have e1 : (Str.ofString "(").length = 1 := by rw [lp]; rfl
  have e2 : (Str.ofString ")").length = 1 := by rw [rp]; rfl
  refine ⟨_, l, (srt ts).map mkS, rfl, rfl, SqL.of upd_same, ?_, ?_⟩
  . rw [el, e0]
    omega
  rw [join_is]; refine ⟨_, _, rfl, rfl, ?_, _, _, rfl, rfl, ?_, ?_⟩
  . rw [ef, e1]
    exact small (by omega)
  . rw [Str.length_append, ef, e1, e2]
    exact small (by omega)
  rw [brk_is]; exact q _ ((s3.trans s4).trans (same_new h3 _))
theorem branch_none : FnOk P w K mg base CX0 0 f fd ["_law_near", "_law_knot", "_law_back"] (spBranch 0) := by
  have no : ∀ vs H Q E, ¬ spBranch 0 vs H Q E := fun vs H Q E h => by
    obtain ⟨b, bs, ls, ab, r, v, rk, bk, _, _, T, _, hv, _, hc, _⟩ := h; have := T.low v hv
    omega
  exact ⟨fun vs H Q E h => absurd h (no vs H Q E), fun A outer s H args us vs Q E _ _ _ _ h => absurd h (no vs H Q E)⟩
theorem branch_all (F : Fun K "_law_branch" "_law_branch" sBranch f fd) (bd : Binds K fd ["_law_near", "_law_knot", "_law_back"] []) (hm : mg "_law_branch" = some (.ref f)) (ms : mg "sorted" = none) :
    ∀ n : Nat, FnOk P w K mg base CX0 n f fd ["_law_near", "_law_knot", "_law_back"] (spBranch n)
  | 0 => branch_none
  | n + 1 => ok_branch F ⟨branch_all F bd hm ms n, bd, F.kp, hm⟩ ms
end
end K13
namespace K13
open PySem L2 KM KD PyProof.Rows
section
variable {P : Program} {w : World} {K : PySem.W.Frag} {mg : Str -> Option Value} {base : Heap} {f : Addr} {fd : FuncData}
theorem seq0 (n : Nat) : seqIndex? 0 (n + 1) = some 0 := by
  unfold seqIndex?
  simp
theorem scFarAt : FnScope ["_law_near", "_law_start", "_law_far", "_law_todo", "_law_most", "_law_knot", "_law_one"] ["_law_near", "_law_start"] (defScope sFarnessAt) := ⟨rfl, rfl, rfl, by decide +kernel, rfl, by decide +kernel, by decide +kernel⟩
theorem ok_farAt (F : Fun K "_law_farness_at" "_law_farness_at" sFarnessAt f fd) (mx : mg "max" = none) : FnOk P w K mg base CX0 1 f fd ["_law_near", "_law_start"] spFarAt := by
  refine F.ok scFarAt (fun vs H Q E h => ?_) (fun cdv A outer s H vs Q E hr h => ?_)
  . obtain ⟨b, bs, n, v, ls, rfl, _⟩ := h
    rfl
  obtain ⟨b, bs, n, v, ls, rfl, G, hF, hv, hn, q⟩ := h
  refine ⟨_, pss_cons (ps_set (i := 2) scFarAt.nd rfl (Or.inl rfl) (pe_disp (pps_cons (pv 1) pe_int pps_nil) rfl rfl (by decide) (by decide)))
    (pss_cons (ps_set (i := 3) scFarAt.nd rfl (Or.inl rfl) (pe_lst (pa_cons (pv 1) pa_nil)))
    (pss_cons (ps_set (i := 4) scFarAt.nd rfl (Or.inl rfl) pe_int)
    (pss_cons (ps_while PassesOwn.never (pt_cmpR (op_neNil hr.units0) (pv 3) (pe_lst pa_nil) (nomark _))
      (pss_cons (ps_set (i := 5) scFarAt.nd rfl (Or.inl rfl) (pe_bm PySem.F.plainAttrs_list PySem.F.slot_list_pop PySem.F.type_list_pop mt_popAt (pv 3) (pa_cons pe_int pa_nil)))
      (pss_cons (ps_set (i := 4) scFarAt.nd rfl (Or.inl rfl) (pe_callB (call_max2 rfl) rfl mx PyProof.Rows.boot_max (pa_cons (pv 4) (pa_cons (pe_dget hr.units1 (pv 2) (pv 5) (fun _ _ => rfl)) pa_nil))))
      (pss_one (ps_for PassesOwn.never rfl (pi_list (pe_ix ix_list (pv 0) (pv 5) (fun _ _ => rfl))) (pg_name (i := 6) scFarAt.nd rfl (Or.inl rfl))
        (pss_one (ps_if (pt_cmp (pc_dnotin hr.units1 (pv 6) (pv 2)))
          (pss_cons (ps_dput hr.units1 (pv 2) (pv 6) (pe_op op_add (pe_dget hr.units1 (pv 2) (pv 5) (fun _ _ => rfl)) pe_int) rfl)
          (pss_one (ps_expr (pe_bm PySem.F.plainAttrs_list PySem.F.slot_list_append PySem.F.type_list_append mt_append (pv 3) (pa_cons (pv 6) pa_nil))))) pss_nil)))))))
    (pss_one (ps_ret (pv 4)))))), ?_⟩
  have R := at_spec hF hv; refine hld fun g_ k_ => ?_; obtain ⟨hla, ⟨rk, T⟩, fo⟩ := id R; refine k_ ?_; obtain ⟨dp, hdp⟩ := dep_fn T; rw [hla] at hdp; have hlt : ∀ p ∈ ls, p.1 < n /\ p.2 < n := fun p hp => hF.lt hp; have hdv : dp v = 0 := dep_root T (hdp v hv); intro d hd; refine ⟨_, rfl, upd_same, [(.inl (v : Int), .int 0)], rfl, (by show 1 <= 15; decide), ?_⟩
  have ekv : mergeK [] [((.inl (v : Int) : Key), V.int 0)] = kvW [v] (fun k => some (dp k)) := by
    show [((.inl (v : Int) : Key), V.int 0)] = [((.inl (v : Int) : Key), vO (some (dp v)))]
    rw [hdv]
    rfl
  rw [ekv]; have s1 : Same H (upd (upd H d (.dK [])) d (.dK (kvW [v] fun k => some (dp k)))) := same_upd (same_new hd _) hd _; have ed : (upd (upd H d (.dK [])) d (.dK (kvW [v] fun k => some (dp k)))) d = some (.dK (kvW [v] fun k => some (dp k))) := upd_same; generalize upd (upd H d (.dK [])) d (.dK (kvW [v] fun k => some (dp k))) = H1 at s1 ed; refine ⟨_, rfl, (by show 1 <= sizeLine; decide), fun o ho => ?_⟩
  have ho0 : H o = none := s1.free ho; have hod : d ≠ o := ne_of_none ed ho
  refine while_m (fun m σ H2 => ∃ (ord : List Nat) (pa : Nat -> Option Nat) (pl ms : Nat) (o5 o6 : Option V), m = n - pl /\ σ = [some (.ref b), some (vN v), some (.ref d), some (.ref o), some (vN ms), o5, o6] /\ Same H H2 /\ H2 d = some (.dK (kvW ord fun k => some (dp k))) /\ H2 o = some (.lst ((ord.drop pl).map vN)) /\ GB ls n v ord pa pl /\ (∀ k ∈ ord.take pl, dp k <= ms) /\ (ms = 0 \/ ∃ k ∈ ord.take pl, dp k = ms))
    n ⟨[v], _, 0, 0, _, _, rfl, rfl, s1.trans (same_new ho _), by rw [upd_ne hod]; exact ed, upd_same, gb0 hv, fun k hk => (nomatch hk), .inl rfl⟩ ?_ ?_
  . rintro m σ H2 p_
    refine hld fun g_ k_ => ?_; obtain ⟨ord, pa, pl, ms, o5, o6, rfl, rfl, s2, e2, e3, B, hms, hme⟩ := p_; refine k_ ?_; refine ⟨_, rfl, (by show 0 <= sizeLine; decide), fun z hz => ?_⟩
    have s3 := s2.trans (same_new hz (.lst [])); have e23 := same_new hz (.lst []) _ _ e2; have e33 := same_new hz (.lst []) _ _ e3; refine ⟨o, z, _, rfl, rfl, SqL.of e33, SqL.of upd_same, ?_⟩; generalize upd H2 z (.lst []) = H3 at s3 e23 e33; have hle := B.le
    by_cases hpl : pl = ord.length
    . subst hpl
      rw [List.drop_length] at e33 ⊢; have hw : ord.length = n := by rw [<- hla] at B ⊢; exact B.whole T fo
      refine ⟨false, rfl, iteF ⟨_, rfl, ?_⟩⟩; rw [List.take_length] at hms hme; have pm := nodup_full B.nd B.lt hw; have hin : ∀ k, k ∈ ord ↔ k < n := fun k => by rw [pm.mem_iff, List.mem_range]
      have E : Ecc n ls v ms := ecc_of R (fun k e hk he => by
        rw [he.det (hdp k hk)]; exact hms k ((hin k).mpr hk)) (by
        rcases hme with z | ⟨k, hk, e⟩
        . exact ⟨v, hv, by rw [z, <- hdv]; exact hdp v hv⟩
        . exact ⟨k, (hin k).mp hk, by rw [<- e]; exact hdp k ((hin k).mp hk)⟩)
      rw [<- ecc_eq hF hv E]; exact q _ s3
    . have hpl' : pl < ord.length := by omega
      have hk : ord[pl]? = some ord[pl] := List.getElem?_eq_getElem hpl'; have hdr : ord.drop pl = ord[pl] :: ord.drop (pl + 1) := List.drop_eq_getElem_cons hpl'; generalize ord[pl] = k at hk hdr; rw [hdr, List.map_cons] at e33 ⊢; have hkm : k ∈ ord := List.mem_of_getElem? hk; have hkl : k < n := B.lt _ hkm; have hkb : k < bs.length := by rw [G.len]; exact hkl
      have hc : bs[k]? = some bs[k] := List.getElem?_eq_getElem hkb; have ec := G.each k _ hc; generalize bs[k] = cb at hc ec; refine ⟨true, rfl, iteT ⟨_, rfl, .inl ⟨rfl, _, SqL.of e33⟩, o, _, _, 0, _, rfl, rfl, e33, by decide, by decide, seq0 _, rfl, ?_⟩⟩
      have s4 : Same H (upd H3 o (.lst ((ord.drop (pl + 1)).map vN))) := same_upd s3 ho0 _; have e24 : (upd H3 o (.lst ((ord.drop (pl + 1)).map vN))) d = some (.dK (kvW ord fun k => some (dp k))) := by rw [upd_ne hod]; exact e23
      have e34 : (upd H3 o (.lst ((ord.drop (pl + 1)).map vN))) o = some (.lst ((ord.drop (pl + 1)).map vN)) := upd_same; rw [show (vN k :: (ord.drop (pl + 1)).map vN).eraseIdx 0 = (ord.drop (pl + 1)).map vN from rfl]
      generalize upd H3 o (.lst ((ord.drop (pl + 1)).map vN)) = H4 at s4 e24 e34; have gk : DGet H4 d (V.int (k : Int)) (some (vO (some (dp k)))) := .inl ⟨_, .inl (k : Int), .inl e24, rfl, (kvW_some (pa := fun k => some (dp k)) hkm).symm⟩; refine ⟨_, rfl, _, rfl, _, rfl, d, _, rfl, gk, _, _, rfl, ?_⟩; obtain ⟨ms', hms'⟩ : ∃ ms' : Nat, ms' = if dp k > ms then dp k else ms := ⟨_, rfl⟩
      have emx : (if ((dp k : Nat) : Int) > ((ms : Nat) : Int) then ((dp k : Nat) : Int) else ((ms : Nat) : Int)) = ((ms' : Nat) : Int) := by
        rw [hms']
        by_cases c : dp k > ms
        . rw [if_pos c, if_pos (by omega)]
        . rw [if_neg c, if_neg (by omega)]
      change gName 4 (V.int (if ((dp k : Nat) : Int) > ((ms : Nat) : Int) then ((dp k : Nat) : Int) else ((ms : Nat) : Int))) _ _ _
      rw [emx]
      refine ⟨_, rfl, _, rfl, b, _, _, _, rfl, rfl, SqL.of (s4 _ _ G.top), at_map hc, cb, rfl, ⟨_, SqL.of (s4 _ _ ec)⟩, for_list (K := K) (a := cb) (xs := (near ls k).map vN)
        (fun i σ H5 => ∃ (ord' : List Nat) (pa : Nat -> Option Nat) (o6 : Option V), σ = [some (.ref b), some (vN v), some (.ref d), some (.ref o), some (vN ms'), some (vN k), o6] /\ Same H H5 /\ H5 d = some (.dK (kvW ord' fun k => some (dp k))) /\ H5 o = some (.lst ((ord'.drop (pl + 1)).map vN)) /\ GB ls n v ord' pa pl /\ ord'[pl]? = some k /\ ord'.take pl = ord.take pl /\ ∀ c ∈ (near ls k).take i, c ∈ ord')
        ⟨ord, pa, _, rfl, s4, e24, e34, B, hk, rfl, fun c hc => (nomatch hc)⟩ (fun i σ H5 _ ⟨_, _, _, _, s5, _⟩ => SqL.of (s5 _ _ ec)) ?_ ?_⟩
      . rintro i x σ H5 hx p_
        refine hld fun g_ k_ => ?_; obtain ⟨ord', pa', o6, rfl, s5, e25, e35, B', hk', htp, hin⟩ := p_; refine k_ ?_; obtain ⟨c, hci, rfl⟩ := of_map hx; have hcn : c ∈ near ls k := List.mem_of_getElem? hci; have hcl : c < n := near_lt hlt hcn; have htk : (near ls k).take (i + 1) = (near ls k).take i ++ [c] := by rw [List.take_add_one, hci]; rfl
        have hbl := B'.len; refine ⟨_, rfl, _, rfl, d, _, rfl, DGet.k (k := .inl (c : Int)) e25, ?_⟩
        by_cases hm : c ∈ ord'
        . rw [kvW_some hm]
          refine ⟨_, rfl, iteF ⟨ord', pa', _, rfl, s5, e25, e35, B', hk', htp, fun x hx => ?_⟩⟩; rw [htk] at hx
          rcases List.mem_append.mp hx with hx | hx
          . exact hin x hx
          . rw [List.mem_singleton] at hx; subst hx; exact hm
        . rw [kvW_none.mpr hm]
          have hdc := B'.dep_at R hv hdp hk' hcn hm hcl; have hkm' : k ∈ ord' := List.mem_of_getElem? hk'; have hkl' := (List.getElem?_eq_some_iff.mp hk').1; have gk5 : DGet H5 d (V.int (k : Int)) (some (vO (some (dp k)))) := .inl ⟨_, .inl (k : Int), .inl e25, rfl, (kvW_some (pa := fun k => some (dp k)) hkm').symm⟩; refine ⟨_, rfl, iteT ⟨_, rfl, _, rfl, d, _, rfl, gk5, _, _, rfl, rfl, _, rfl, _, rfl, d, _, rfl, DPut.k (k := .inl (c : Int)) e25 (smallt (by show (ord'.map _).length <= _; rw [List.length_map]; omega)), ?_⟩⟩
          have epu : putK (kvW ord' fun k => some (dp k)) (.inl (c : Int)) (V.int (((dp k : Nat) : Int) + 1)) = kvW (ord' ++ [c]) fun k => some (dp k) := by
            rw [<- kvW_put hm]
            show putK _ _ _ = putK _ _ (vO (some (dp c)))
            rw [hdc]
            rfl
          have e26 : (upd H5 d (.dK (putK (kvW ord' fun k => some (dp k)) (.inl (c : Int)) (V.int (((dp k : Nat) : Int) + 1))))) d = some (.dK (kvW (ord' ++ [c]) fun k => some (dp k))) := by rw [upd_same, epu]
          have s6 := same_upd s5 hd (.dK (putK (kvW ord' fun k => some (dp k)) (.inl (c : Int)) (V.int (((dp k : Nat) : Int) + 1)))); have e36 : (upd H5 d (.dK (putK (kvW ord' fun k => some (dp k)) (.inl (c : Int)) (V.int (((dp k : Nat) : Int) + 1))))) o = some (.lst ((ord'.drop (pl + 1)).map vN)) := by rw [upd_ne (Ne.symm hod)]; exact e35
          refine ⟨_, rfl, .inl ⟨rfl, _, SqL.of e36⟩, _, rfl, o, _, _, rfl, rfl, e36, smallt (by rw [List.length_map, List.length_drop]; omega), ?_⟩
          refine ⟨ord' ++ [c], _, some (vN c), rfl, same_upd s6 ho0 _, by rw [upd_ne hod]; exact e26, ?_, B'.meet hk' hcn hm hcl, ?_, ?_, fun x hx => ?_⟩
          . rw [upd_same, List.drop_append_of_le_length (by omega), List.map_append]
            rfl
          . rw [List.getElem?_append_left hkl']; exact hk'
          . rw [List.take_append_of_le_length (by omega)]; exact htp
          . rw [htk] at hx
            rcases List.mem_append.mp hx with hx | hx
            . exact List.mem_append.mpr (.inl (hin x hx))
            . exact List.mem_append.mpr (.inr hx)
      . rintro σ H5 p_
        refine hld fun g_ k_ => ?_; obtain ⟨ord', pa', o6, rfl, s5, e25, e35, B', hk', htp, hin⟩ := p_; refine k_ ?_; rw [List.length_map, List.take_length] at hin; have B2 := B'.next hk' hin; have hle2 := B2.le; have hbl2 := B'.len; have htk' : ord'.take (pl + 1) = ord.take pl ++ [k] := by rw [List.take_add_one, hk', htp]; rfl
        refine ⟨n - (pl + 1), by omega, ord', pa', pl + 1, ms', some (vN k), o6, rfl, rfl, s5, e25, e35, B2, fun x hx => ?_, ?_⟩
        . rw [htk'] at hx
          rw [hms']
          rcases List.mem_append.mp hx with hx | hx
          . have := hms x hx
            split <;> omega
          . rw [List.mem_singleton.mp hx]
            split <;> omega
        . rw [htk', hms']
          by_cases c : dp k > ms
          . rw [if_pos c]
            exact .inr ⟨k, by simp, rfl⟩
          . rw [if_neg c]
            rcases hme with z | ⟨x, hx, e⟩
            . exact .inl z
            . exact .inr ⟨x, List.mem_append.mpr (.inl hx), e⟩
  . rintro σ H2 Q1 Q2 hQ p_
    refine hld fun g_ k_ => ?_; obtain ⟨v1, h1, h2, h⟩ := p_; refine k_ ?_; refine ⟨v1, h1, h2, fun z hz => ?_⟩; refine hld fun g_ k_ => ?_; obtain ⟨a', b', xs, e1, e2, e3, e4, k, e5, h⟩ := h z hz; refine k_ ?_; exact ⟨a', b', xs, e1, e2, e3, e4, k, e5, hQ _ _ h⟩
end
end K13
namespace K13
open PySem L2 KM KD PyProof.Rows
section
variable {P : Program} {w : World} {K : PySem.W.Frag} {mg : Str -> Option Value} {base : Heap} {f : Addr} {fd : FuncData}
theorem scMidsBy : FnScope ["_law_near", "_law_found"] ["_law_near"] (defScope sMiddlesBy) := ⟨rfl, rfl, rfl, by decide +kernel, rfl, by decide +kernel, by decide +kernel⟩
theorem ndKNm : (["_law_knot", "_law_near"] : List Str).Nodup := by decide +kernel
theorem ndKFm : (["_law_knot", "_law_found"] : List Str).Nodup := by decide +kernel
theorem ok_midsBy {f1 : Addr} {d1 : FuncData} (F : Fun K "_law_middles_by" "_law_middles_by" sMiddlesBy f fd) (GF : Kit P w K mg base 1 "_law_farness_at" ["_law_near", "_law_start"] spFarAt f1 d1) (ml : mg "len" = none) (mr : mg "range" = none) (mm : mg "min" = none) : FnOk P w K mg base CX0 2 f fd ["_law_near"] spMidsBy := by
  refine F.ok scMidsBy (fun vs H Q E h => ?_) (fun cdv A outer s H vs Q E hr h => ?_)
  . obtain ⟨b, bs, n, ls, rfl, _⟩ := h
    rfl
  obtain ⟨b, bs, n, ls, rfl, B, hF, hn0, hn, q⟩ := h
  refine ⟨_, pss_cons (ps_set (i := 1) scMidsBy.nd rfl (Or.inr rfl)
        (pe_comp (N' := ["_law_knot", "_law_near"]) (js := [none, some 0])
          (CompOk.free1 (x := "_law_near") (nms := [(".0", .local), ("_law_knot", .local), ("_law_farness_at", .globalImplicit), ("_law_near", .cell)]) rfl (by decide +kernel) (by decide +kernel) rfl rfl rfl rfl (by decide +kernel) (by
            intro j i h
            match j, h with
            | 0, h => cases h
            | 1, h => cases h; exact ⟨rfl, rfl⟩) rfl (Or.inl rfl)) rfl
          (pi_range1 rfl mr (pa_cons (pe_callB call_len_seq rfl ml PySem.boot_len (pa_cons (pv 0) pa_nil)) pa_nil)) (fun _ _ _ _ => pg_name (i := 0) ndKNm rfl (Or.inl rfl)) (fun _ _ _ _ => pif_nil)
          (fun _ _ _ _ => pe_call GF.ok hr rfl GF.mg GF.kp GF.bd .nil pass0 (pa_cons (pv 1) (pa_cons (pv 0) pa_nil)))))
    (pss_one (ps_ret (pe_comp (N' := ["_law_knot", "_law_found"]) (js := [none, some 1])
        (CompOk.free1 (x := "_law_found") (nms := [(".0", .local), ("_law_knot", .local), ("min", .globalImplicit), ("_law_found", .cell)]) rfl (by decide +kernel) (by decide +kernel) rfl rfl rfl rfl (by decide +kernel) (by
            intro j i h
            match j, h with
            | 0, h => cases h
            | 1, h => cases h; exact ⟨rfl, rfl⟩) rfl (Or.inl rfl)) rfl
        (pi_range1 rfl mr (pa_cons (pe_callB call_len_seq rfl ml PySem.boot_len (pa_cons (pv 0) pa_nil)) pa_nil)) (fun _ _ _ _ => pg_name (i := 0) ndKFm rfl (Or.inl rfl))
        (fun _ _ _ _ => pif_one (pt_cmpR op_eq (pe_ix ix_listC (pv 1) (pv 0) (fun _ _ => rfl)) (pe_callB (call_minLC rfl) rfl mm PyProof.Rows.boot_min (pa_cons (pv 1) pa_nil)) (nomark _))) (fun _ _ _ _ => pv 0)))), ?_⟩
  have hlb : (bs.map V.ref).length = n := by rw [List.length_map, B.len]
  have hel := eccs_len n ls; refine ⟨_, rfl, b, _, rfl, .inl (SqL.of B.top), _, rfl, by omega, by rw [hlb]; omega, ?_⟩
  rw [hlb, Int.toNat_natCast]; refine comp_range (fun D i ys τ H5 => (∃ o, τ = [o, some (.ref b)]) /\ ys = ((eccs n ls).take i).map vN /\ Same H H5 /\ H D = none /\ H5 D = some (.lst ys)) (fun D hD => ⟨⟨_, rfl⟩, rfl, same_new hD _, hD, upd_same⟩) ?_ ?_
  . rintro D i ys τ H5 hi p_
    refine hld fun g_ k_ => ?_; obtain ⟨⟨o, rfl⟩, rfl, s5, hD, e5⟩ := p_; refine k_ ?_
    dsimp only [gName, tAlways]
    rw [if_pos rfl]; refine ⟨_, rfl, _, rfl, b, bs, n, i, ls, rfl, B.up s5, hF, hi, hn, fun H6 s6 => ?_⟩; refine ⟨s6 _ _ e5, smallt (by rw [List.length_map, List.length_take]; omega), Nx.mk hi ⟨⟨_, rfl⟩, ?_, same_upd (s5.trans s6) hD _, hD, upd_same⟩⟩
    rw [List.take_add_one, eccs_get hi, List.map_append]
    rfl
  . rintro D ys τ H5 p_
    refine hld fun g_ k_ => ?_; obtain ⟨_, rfl, s5, hD, e5⟩ := p_; refine k_ ?_; rw [List.take_of_length_le (by rw [hel]; exact Nat.le_refl _)] at e5
    obtain ⟨m, hm, hle⟩ := least_ecc (n := n) ls hn0; have e5' := e5; rw [vN_int] at e5'; refine ⟨_, rfl, b, _, rfl, .inl (SqL.of (s5 _ _ B.top)), _, rfl, by omega, by rw [hlb]; omega, ?_⟩
    rw [hlb, Int.toNat_natCast]; refine comp_range (fun D2 i ys τ H6 => (∃ o1, τ = [o1, some (.ref D)]) /\ ys = (midTo n ls m i).map vN /\ Same H5 H6 /\ H5 D2 = none /\ H6 D2 = some (.lst ys)) (fun D2 hD2 => ⟨⟨_, rfl⟩, rfl, same_new hD2 _, hD2, upd_same⟩) ?_ ?_
    . rintro D2 i ys τ H6 hi p_
      refine hld fun g_ k_ => ?_; obtain ⟨⟨o1, rfl⟩, rfl, s6, hD2, e6⟩ := p_; refine k_ ?_; have hml := midTo_len n m i ls
      dsimp only [gName]
      refine ⟨_, rfl, _, rfl, D, _, _, _, rfl, rfl, SqL.of (s6 _ _ e5), at_map (eccs_get hi), _, rfl, D, _, (m : Int), rfl, SqL.of (s6 _ _ e5'), List.mem_map_of_mem hm, fun x hx => ?_, rfl, decide (ecc n ls i = m), ?_, ?_⟩
      . obtain ⟨y, hy, rfl⟩ := List.mem_map.mp hx
        have := hle y hy
        omega
      . show V.bl (decide (vN (ecc n ls i) = V.int (m : Int))) = _
        congr 1
        by_cases z : ecc n ls i = m
        . rw [z]; exact (decide_eq_true rfl).trans (decide_eq_true rfl).symm
        . rw [decide_eq_false z, decide_eq_false fun y => z (by have := V.int.inj y; omega)]
      by_cases z : ecc n ls i = m
      . rw [decide_eq_true z]
        try dsimp only
        rw [if_pos rfl]; refine ⟨_, rfl, e6, smallt (by rw [List.length_map]; omega), Nx.mk hi ⟨⟨_, rfl⟩, ?_, same_upd s6 hD2 _, hD2, upd_same⟩⟩
        rw [midTo_hit z, List.map_append]
        rfl
      . rw [decide_eq_false z]
        try dsimp only
        rw [if_neg Bool.false_ne_true]; exact Nx.mk hi ⟨⟨_, rfl⟩, by rw [midTo_miss z], s6, hD2, e6⟩
    . rintro D2 ys τ H6 p_
      refine hld fun g_ k_ => ?_; obtain ⟨_, rfl, s6, hD2, e6⟩ := p_; refine k_ ?_; rw [midTo_all hm hle] at e6; exact q D2 H6 (s5.trans s6) (s5.free hD2) e6
end
end K13
namespace K13
open PySem L2 KM KD PyProof.Rows
section
variable {P : Program} {w : World} {K : PySem.W.Frag} {mg : Str -> Option Value} {base : Heap} {f : Addr} {fd : FuncData}
theorem scFreeText : FnScope ["_law_near", "_law_found", "_law_one", "_law_other"] ["_law_near"] (defScope sFreeText) := ⟨rfl, rfl, rfl, by decide +kernel, rfl, by decide +kernel, by decide +kernel⟩
theorem ok_freeText {f1 f2 : Addr} {d1 d2 : FuncData} (F : Fun K "_law_free_text" "_law_free_text" sFreeText f fd) (GM : Kit P w K mg base 2 "_law_middles_by" ["_law_near"] spMidsBy f1 d1) (GB : Kit P w K mg base 63 "_law_branch" ["_law_near", "_law_knot", "_law_back"] (spBranch 63) f2 d2)
    (ml : mg "len" = none) (ms : mg "sorted" = none) : FnOk P w K mg base CX0 64 f fd ["_law_near"] spFreeText := by
  refine F.ok scFreeText (fun vs H Q E h => ?_) (fun cdv A outer s H vs Q E hr h => ?_)
  . obtain ⟨b, bs, n, ls, rfl, _⟩ := h
    rfl
  obtain ⟨b, bs, n, ls, rfl, B, hF, hn0, hn, q⟩ := h; have hr2 : Room 2 _ := hr.mono (by decide)
  refine ⟨_, pss_cons (ps_set (i := 1) scFreeText.nd rfl (Or.inl rfl) (pe_call GM.ok hr2 rfl GM.mg GM.kp GM.bd .nil pass0 (pa_cons (pv 0) pa_nil)))
    (pss_cons (ps_if (pt_cmpR op_eq (pe_callB call_len_seq rfl ml PySem.boot_len (pa_cons (pv 1) pa_nil)) pe_int (nomark _))
      (pss_one (ps_ret (pe_call GB.ok hr rfl GB.mg GB.kp GB.bd .nil pass0 (pa_cons (pv 0) (pa_cons (pe_ix ix_list (pv 1) pe_int (fun _ _ => rfl)) (pa_cons (pe_un un_neg pe_int) pa_nil)))))) pss_nil)
    (pss_cons (ps_set (i := 2) scFreeText.nd rfl (Or.inl rfl) (pe_call GB.ok hr rfl GB.mg GB.kp GB.bd .nil pass0 (pa_cons (pv 0) (pa_cons (pe_ix ix_list (pv 1) pe_int (fun _ _ => rfl)) (pa_cons (pe_ix ix_list (pv 1) pe_int (fun _ _ => rfl)) pa_nil)))))
    (pss_cons (ps_set (i := 3) scFreeText.nd rfl (Or.inl rfl) (pe_call GB.ok hr rfl GB.mg GB.kp GB.bd .nil pass0 (pa_cons (pv 0) (pa_cons (pe_ix ix_list (pv 1) pe_int (fun _ _ => rfl)) (pa_cons (pe_ix ix_list (pv 1) pe_int (fun _ _ => rfl)) pa_nil)))))
    (pss_one (ps_ret (pe_bm PySem.F.plainAttrs_str PySem.F.slot_str_join PySem.F.type_str_join mt_join pe_str (pa_cons (pe_callB call_sortedS rfl ms boot_sorted (pa_cons (pe_lst (pa_cons (pv 2) (pa_cons (pv 3) pa_nil))) pa_nil)) pa_nil))))))), ?_⟩
  refine ⟨_, rfl, b, bs, n, ls, rfl, B, hF, hn0, by omega, fun rt H1 s1 hrt ert => ?_⟩
  have B1 := B.up s1
  rcases mids_cases hF hn0 with ⟨m, em⟩ | ⟨a, c, em, hab, hj⟩
  . have hml : m < n := mids_lt (ls := ls) (by rw [em]; simp)
    rw [ff_one em] at q; rw [em] at ert; refine hld fun g_ k_ => ?_; obtain ⟨hal, ⟨rk, T⟩, fo⟩ := at_spec hF hml; refine k_ ?_; refine ⟨_, rfl, rt, _, rfl, .inl (SqL.of ert), rfl, true, rfl, iteT ?_⟩; refine ⟨_, rfl, _, rfl, rt, _, _, _, rfl, rfl, SqL.of ert, at_map (xs := [m]) (i := 0) rfl, 1, rfl, b, bs, ls, At n ls m, m, m, rk, -1, rfl, (by rw [hal]; exact B1), T, fo, by omega, by omega, by omega, fun c => ?_, fun H2 s2 => q H2 (s1.trans s2)⟩
    rw [T.root]; exact ⟨fun _ z => (nomatch (Option.some.inj z)), fun _ z => by omega⟩
  . have hal : a < n := mids_lt (ls := ls) (by rw [em]; simp)
    have hcl : c < n := mids_lt (ls := ls) (by rw [em]; simp)
    rw [ff_two em] at q; rw [em] at ert; have Ra := at_spec hF hal; have Rc := at_spec hF hcl; have ka := Rc.kid (near_symm hj) hcl; have kc := Ra.kid hj hal; refine hld fun g_ k_ => ?_; obtain ⟨hla, ⟨rka, Ta⟩, foa⟩ := id Ra; refine k_ ?_; refine hld fun g_ k_ => ?_; obtain ⟨hlc, ⟨rkc, Tc⟩, foc⟩ := id Rc; refine k_ ?_; refine ⟨_, rfl, rt, _, rfl, .inl (SqL.of ert), rfl, false, rfl, iteF ?_⟩; refine ⟨_, rfl, _, rfl, rt, _, _, _, rfl, rfl, SqL.of ert, at_map (xs := [a, c]) (i := 0) rfl, _, rfl, rt, _, _, _, rfl, rfl, SqL.of ert, at_map (xs := [a, c]) (i := 1) rfl, b, bs, ls, At n ls c, c, a, rkc, ((c : Nat) : Int), rfl, (by rw [hlc]; exact B1), Tc, foc, by omega, by omega, by omega, fun x => ?_, fun H2 s2 => ?_⟩
    . rw [ka]
      exact ⟨fun z y => z (by rw [Option.some.inj (Option.some.inj y)]), fun z y => z (by rw [show c = x by omega])⟩
    have ert2 := s2 _ _ ert; refine ⟨_, rfl, _, rfl, rt, _, _, _, rfl, rfl, SqL.of ert2, at_map (xs := [a, c]) (i := 1) rfl, _, rfl, rt, _, _, _, rfl, rfl, SqL.of ert2, at_map (xs := [a, c]) (i := 0) rfl, b, bs, ls, At n ls a, a, c, rka, ((a : Nat) : Int), rfl, (by rw [hla]; exact B1.up s2), Ta, foa, by omega, by omega, by omega, fun x => ?_, fun H3 s3 => ?_⟩
    . rw [kc]
      exact ⟨fun z y => z (by rw [Option.some.inj (Option.some.inj y)]), fun z y => z (by rw [show a = x by omega])⟩
    have l1 : (br n ls c a).length <= 2 * 64 * 64 := Nat.le_trans (br_len hF (near_symm hj)) (Nat.mul_le_mul (Nat.mul_le_mul (Nat.le_refl _) (by omega)) (by omega))
    have l2 : (br n ls a c).length <= 2 * 64 * 64 := Nat.le_trans (br_len hF hj) (Nat.mul_le_mul (Nat.mul_le_mul (Nat.le_refl _) (by omega)) (by omega))
    refine ⟨rfl, _, rfl, _, rfl, (by show 2 <= sizeLine; decide), fun pp hpp => ?_⟩
    have epp : (upd H3 pp (.lst [vT (fm (At n ls c) a), vT (fm (At n ls a) c)])) pp = some (.lst (([br n ls c a, br n ls a c].map mkS).map V.str)) := upd_same; have s6 := same_new hpp (.lst [vT (fm (At n ls c) a), vT (fm (At n ls a) c)]); generalize upd H3 pp (.lst [vT (fm (At n ls c) a), vT (fm (At n ls a) c)]) = H6 at epp s6; refine ⟨pp, _, rfl, SqL.of epp, (by show 2 < 64; decide), fun l ss' h1 h2 h3 => ?_⟩
    have es := sorted_is h1 h2; subst es; refine hld fun g_ k_ => ?_; obtain ⟨x, y, exy, hxy⟩ := srt_two (br n ls c a) (br n ls a c); refine k_ ?_; rw [dash_two exy] at q; refine ⟨_, l, (srt [br n ls c a, br n ls a c]).map mkS, rfl, rfl, SqL.of upd_same, ?_, ?_⟩
    . rw [exy]
      have e1 : (Str.ofString "-").length = 1 := by rw [dashS]; rfl
      show ((mkS x).length + ((mkS y).length + 0)) + 2 * _ <= 16777216
      rw [e1, mkS_len, mkS_len]
      omega
    . rw [exy]
      show Q (V.str (Txt.join (Str.ofString "-") [mkS x, mkS y])) _
      rw [join_dash]; exact q _ (s1.trans (s2.trans (s3.trans (s6.trans (same_new h3 _)))))
end
end K13
namespace K13
open PySem L2 KM KD PyProof.Rows
section
variable {P : Program} {w : World} {K : PySem.W.Frag} {mg : Str -> Option Value} {base : Heap} {f : Addr} {fd : FuncData}
abbrev nN : Str := "numbers"
abbrev nF : Str := "forms"
abbrev nC : Str := "counts"
theorem putF1 {v w : V} : putF nF w [(nN, v)] = [(nN, v), (nF, w)] := by
  unfold putF
  rw [if_neg (by decide +kernel)]
  rfl
theorem putF2 {v w u : V} : putF nC u [(nN, v), (nF, w)] = [(nN, v), (nF, w), (nC, u)] := by
  unfold putF
  rw [if_neg (by decide +kernel)]
  unfold putF
  rw [if_neg (by decide +kernel)]
  rfl
theorem lkN {dn lf lc : Addr} : List.lookup nN (fsB dn lf lc) = some (V.ref dn) := by
  unfold fsB
  rw [List.lookup_cons_self]
theorem lkF {dn lf lc : Addr} : List.lookup nF (fsB dn lf lc) = some (V.ref lf) := by
  unfold fsB
  rw [List.lookup_cons, show (nF == nN) = false from by decide +kernel]
  show List.lookup nF [(nF, V.ref lf), (nC, V.ref lc)] = _
  rw [List.lookup_cons_self]
theorem lkC {dn lf lc : Addr} : List.lookup nC (fsB dn lf lc) = some (V.ref lc) := by
  unfold fsB
  rw [List.lookup_cons, show (nC == nN) = false from by decide +kernel]
  show List.lookup nC [(nF, V.ref lf), (nC, V.ref lc)] = _
  rw [List.lookup_cons, show (nC == nF) = false from by decide +kernel]
  show List.lookup nC [(nC, V.ref lc)] = _
  rw [List.lookup_cons_self]
theorem lk0 {dn lf lc : Addr} {m : Str} (h1 : (m == nN) = false) (h2 : (m == nF) = false) (h3 : (m == nC) = false) : List.lookup m (fsB dn lf lc) = none := by
  unfold fsB
  rw [List.lookup_cons, h1]
  show List.lookup m [(nF, V.ref lf), (nC, V.ref lc)] = _
  rw [List.lookup_cons, h2]
  show List.lookup m [(nC, V.ref lc)] = _
  rw [List.lookup_cons, h3]
  rfl
theorem scMInit : FnScope ["self"] ["self"] (defScope sMInit) := ⟨rfl, rfl, rfl, by decide +kernel, rfl, by decide +kernel, by decide +kernel⟩
theorem ok_mInit {C : Addr} (F : Fun K "__init__" "Book.__init__" sMInit f fd) (cl : BookC K C) : FnOk P w K mg base CX0 1 f fd ["self"] (spInitB C) := by
  refine F.ok scMInit (fun vs H Q E h => ?_) (fun cdv A outer s H vs Q E hr h => ?_)
  . obtain ⟨b, dx, rfl, _⟩ := h
    rfl
  obtain ⟨b, dx, rfl, hb, q⟩ := h; refine ⟨_, pss_cons (ps_fld (pv 0) pe_dnewT rfl) (pss_cons (ps_fld (pv 0) (pe_lst pa_nil) rfl) (pss_one (ps_fld (pv 0) (pe_lst pa_nil) rfl))), ?_⟩; intro dn hdn; have hbn : b ≠ dn := ne_of_none hb hdn; refine ⟨_, rfl, b, C, dx, _, rfl, by rw [upd_ne hbn]; exact hb, cl.cls, cl.nu, by decide, ?_⟩
  refine ⟨(by show 0 <= sizeLine; decide), fun lf hlf => ?_⟩
  have e0 : putF nN (V.ref dn) [] = [(nN, V.ref dn)] := rfl; rw [e0] at hlf ⊢; have e1 : (upd (upd H dn (.dT [])) b (.ins C dx [(nN, V.ref dn)])) b = some (.ins C dx [(nN, V.ref dn)]) := upd_same; have d1 : (upd (upd H dn (.dT [])) b (.ins C dx [(nN, V.ref dn)])) dn = some (.dT []) := by rw [upd_ne (Ne.symm hbn)]; exact upd_same
  have s1 : SameX [b] H (upd (upd H dn (.dT [])) b (.ins C dx [(nN, V.ref dn)])) := (Same.x (same_new hdn _) _).put (by simp) _
  generalize upd (upd H dn (.dT [])) b (.ins C dx [(nN, V.ref dn)]) = H1 at hlf e1 d1 s1; have hbf : b ≠ lf := ne_of_none e1 hlf; have hnf : dn ≠ lf := ne_of_none d1 hlf
  have hlf0 : H lf = none := by
    cases z : H lf with
    | none => rfl
    | some o =>
      have := s1 lf o (by simpa using Ne.symm hbf) z
      rw [hlf] at this
      cases this
  refine ⟨_, rfl, b, C, dx, _, rfl, by rw [upd_ne hbf]; exact e1, cl.cls, cl.fo, by show 1 < 1000; decide, ?_⟩
  rw [putF1]; refine ⟨(by show 0 <= sizeLine; decide), fun lc hlc => ?_⟩
  have e2 : (upd (upd H1 lf (.lst [])) b (.ins C dx [(nN, V.ref dn), (nF, V.ref lf)])) b = some (.ins C dx [(nN, V.ref dn), (nF, V.ref lf)]) := upd_same; have d2 : (upd (upd H1 lf (.lst [])) b (.ins C dx [(nN, V.ref dn), (nF, V.ref lf)])) dn = some (.dT []) := by rw [upd_ne (Ne.symm hbn), upd_ne hnf]; exact d1
  have f2 : (upd (upd H1 lf (.lst [])) b (.ins C dx [(nN, V.ref dn), (nF, V.ref lf)])) lf = some (.lst []) := by rw [upd_ne (Ne.symm hbf)]; exact upd_same
  have s2 : SameX [b] H (upd (upd H1 lf (.lst [])) b (.ins C dx [(nN, V.ref dn), (nF, V.ref lf)])) := (s1.trans (Same.x (same_new hlf _) _)).put (by simp) _
  generalize upd (upd H1 lf (.lst [])) b (.ins C dx [(nN, V.ref dn), (nF, V.ref lf)]) = H2 at hlc e2 d2 f2 s2; have hbc : b ≠ lc := ne_of_none e2 hlc; have hnc : dn ≠ lc := ne_of_none d2 hlc; have hfc : lf ≠ lc := ne_of_none f2 hlc
  have hlc0 : H lc = none := by
    cases z : H lc with
    | none => rfl
    | some o =>
      have := s2 lc o (by simpa using Ne.symm hbc) z
      rw [hlc] at this
      cases this
  refine ⟨_, rfl, b, C, dx, _, rfl, by rw [upd_ne hbc]; exact e2, cl.cls, cl.co, by show 2 < 1000; decide, ?_⟩
  rw [putF2]; refine q dn lf lc _ ((s2.trans (Same.x (same_new hlc _) _)).put (by simp) _) hdn hlf0 hlc0 ⟨⟨dx, upd_same⟩, ?_, ?_, ?_, rfl, hfc⟩
  . rw [upd_ne (Ne.symm hbn), upd_ne hnc]; exact d2
  . rw [upd_ne (Ne.symm hbf), upd_ne hfc]; exact f2
  . rw [upd_ne (Ne.symm hbc)]; exact upd_same
theorem scMOne : FnScope ["self", "told_as", "form", "kind"] ["self", "told_as", "form"] (defScope sMOneMore) := ⟨rfl, rfl, rfl, by decide +kernel, rfl, by decide +kernel, by decide +kernel⟩
theorem ok_mOne {C : Addr} (F : Fun K "one_more" "Book.one_more" sMOneMore f fd) (cl : BookC K C) (ml : mg "len" = none) : FnOk P w K mg base CX0 1 f fd ["self", "told_as", "form"] (spOneMore C) := by
  refine F.ok scMOne (fun vs H Q E h => ?_) (fun cdv A outer s H vs Q E hr h => ?_)
  . obtain ⟨b, dn, lf, lc, st, x, rfl, _⟩ := h
    rfl
  obtain ⟨b, dn, lf, lc, st, x, rfl, G, hn, q⟩ := h
  refine ⟨_, pss_cons (ps_if (pt_cmp (pc_dnotin hr.units1 (pe_tup (pa_cons (pv 1) (pa_cons (pv 2) pa_nil))) (pe_fld (pv 0) rfl)))
      (pss_cons (ps_dput hr.units1 (pe_fld (pv 0) rfl) (pe_tup (pa_cons (pv 1) (pa_cons (pv 2) pa_nil))) (pe_callB call_len_seq rfl ml PySem.boot_len (pa_cons (pe_fld (pv 0) rfl) pa_nil)) rfl)
      (pss_cons (ps_expr (pe_bm PySem.F.plainAttrs_list PySem.F.slot_list_append PySem.F.type_list_append mt_append (pe_fld (pv 0) rfl) (pa_cons (pv 2) pa_nil)))
      (pss_one (ps_expr (pe_bm PySem.F.plainAttrs_list PySem.F.slot_list_append PySem.F.type_list_append mt_append (pe_fld (pv 0) rfl) (pa_cons pe_int pa_nil)))))) pss_nil)
    (pss_cons (ps_set (i := 3) scMOne.nd rfl (Or.inl rfl) (pe_dget hr.units1 (pe_fld (pv 0) rfl) (pe_tup (pa_cons (pv 1) (pa_cons (pv 2) pa_nil))) (fun _ _ => rfl)))
    (pss_cons (ps_asg (pe_op op_add (pe_ix ix_list (pe_fld (pv 0) rfl) (pv 3) (fun _ _ => rfl)) pe_int) (pg_sub (pe_fld (pv 0) rfl) (pv 3) set_list))
    (pss_one (ps_ret (pe_tup (pa_cons (pv 3) (pa_cons (pe_ix ix_list (pe_fld (pv 0) rfl) (pv 3) (fun _ _ => rfl)) pa_nil))))))), ?_⟩
  obtain ⟨dx, hob⟩ := G.ob; have hnf : dn ≠ lf := ne_of G.nu G.fo (fun z => nomatch z); have hnc : dn ≠ lc := ne_of G.nu G.co (fun z => nomatch z); have hbn : b ≠ dn := ne_of hob G.nu (fun z => nomatch z); have hbf : b ≠ lf := ne_of hob G.fo (fun z => nomatch z); have hbc : b ≠ lc := ne_of hob G.co (fun z => nomatch z); refine ⟨_, rfl, _, rfl, (by show 2 <= sizeLine; decide), fun p1 hp1 => ?_⟩
  have s1 := same_new hp1 (.tup [V.str (told x.1), vT x.2]); have et1 : (upd H p1 (.tup [V.str (told x.1), vT x.2])) p1 = some (.tup ((keyB x).map kV)) := upd_same; generalize upd H p1 (.tup [V.str (told x.1), vT x.2]) = H1 at s1 et1; refine ⟨_, rfl, b, C, dx, _, _, rfl, s1 _ _ hob, cl.cls, cl.nu, lkN, dn, _, rfl, DGet.t (s1 _ _ G.nu) et1, ?_⟩; refine (?cases : (∀ H8, SameX [dn, lf, lc] H H8 -> H8 b = some (.ins C dx (fsB dn lf lc)) -> H8 dn = some (.dT (kvB (bkK st.1 x))) -> H8 lf = some (.lst ((bkK st.1 x).map fun x => vT x.2)) -> H8 lc = some (.lst ((bkA st.1 st.2 x).map vN)) -> (?R : Hp -> Prop) H8) -> _) ?tail
  case cases =>
    intro tail; refine (Classical.em (x ∈ st.1)).symm.elim (fun hx => ?_) (fun hx => ?_)
    . rw [kvB_out hx]
      have hl : (st.1.map fun x => vT x.2).length = st.1.length := List.length_map _; refine ⟨_, rfl, iteT ⟨_, rfl, b, C, dx, _, _, rfl, s1 _ _ hob, cl.cls, cl.fo, lkF, lf, _, rfl, .inl (SqL.of (s1 _ _ G.fo)), ?_⟩⟩; refine ⟨_, rfl, b, C, dx, _, _, rfl, s1 _ _ hob, cl.cls, cl.nu, lkN, _, rfl, _, rfl, (by show 2 <= sizeLine; decide), fun p2 hp2 => ?_⟩
      have s2 := s1.trans (same_new hp2 (.tup [V.str (told x.1), vT x.2])); have et2 : (upd H1 p2 (.tup [V.str (told x.1), vT x.2])) p2 = some (.tup ((keyB x).map kV)) := upd_same; generalize upd H1 p2 (.tup [V.str (told x.1), vT x.2]) = H2 at s2 et2; have hk : (kvB st.1).length < sizeLine := by rw [kvB_len]; exact small1000 (by omega)
      refine ⟨dn, _, rfl, DPut.t (s2 _ _ G.nu) et2 hk, ?_⟩; rw [hl, show V.int ((st.1.length : Nat) : Int) = vN st.1.length from rfl, kvB_put hx]
      have g3 : SameX [dn, lf, lc] H (upd H2 dn (.dT (kvB (st.1 ++ [x])))) := (Same.x s2 _).put (by simp) _
      have b3 : (upd H2 dn (.dT (kvB (st.1 ++ [x])))) b = some (.ins C dx (fsB dn lf lc)) := by rw [upd_ne hbn]; exact s2 _ _ hob
      have n3 : (upd H2 dn (.dT (kvB (st.1 ++ [x])))) dn = some (.dT (kvB (st.1 ++ [x]))) := upd_same; have f3 : (upd H2 dn (.dT (kvB (st.1 ++ [x])))) lf = some (.lst (st.1.map fun x => vT x.2)) := by rw [upd_ne (Ne.symm hnf)]; exact s2 _ _ G.fo
      have c3 : (upd H2 dn (.dT (kvB (st.1 ++ [x])))) lc = some (.lst (st.2.map vN)) := by rw [upd_ne (Ne.symm hnc)]; exact s2 _ _ G.co
      generalize upd H2 dn (.dT (kvB (st.1 ++ [x]))) = H3 at g3 b3 n3 f3 c3; refine ⟨_, rfl, b, C, dx, _, _, rfl, b3, cl.cls, cl.fo, lkF, .inl ⟨rfl, _, SqL.of f3⟩, _, rfl, lf, _, _, rfl, rfl, f3, smallt (by rw [hl]; omega), ?_⟩
      have g4 : SameX [dn, lf, lc] H (upd H3 lf (.lst ((st.1.map fun x => vT x.2) ++ [vT x.2]))) := g3.put (by simp) _
      have b4 : (upd H3 lf (.lst ((st.1.map fun x => vT x.2) ++ [vT x.2]))) b = some (.ins C dx (fsB dn lf lc)) := by rw [upd_ne hbf]; exact b3
      have n4 : (upd H3 lf (.lst ((st.1.map fun x => vT x.2) ++ [vT x.2]))) dn = some (.dT (kvB (st.1 ++ [x]))) := by rw [upd_ne hnf]; exact n3
      have f4 : (upd H3 lf (.lst ((st.1.map fun x => vT x.2) ++ [vT x.2]))) lf = some (.lst ((st.1.map fun x => vT x.2) ++ [vT x.2])) := upd_same; have c4 : (upd H3 lf (.lst ((st.1.map fun x => vT x.2) ++ [vT x.2]))) lc = some (.lst (st.2.map vN)) := by rw [upd_ne (Ne.symm G.ne)]; exact c3
      generalize upd H3 lf (.lst ((st.1.map fun x => vT x.2) ++ [vT x.2])) = H4 at g4 b4 n4 f4 c4; have hlt : (st.2.map vN).length = st.1.length := by rw [List.length_map]; exact G.len
      refine ⟨_, rfl, b, C, dx, _, _, rfl, b4, cl.cls, cl.co, lkC, .inl ⟨rfl, _, SqL.of c4⟩, lc, _, _, rfl, rfl, c4, smallt (by rw [hlt]; omega), ?_⟩
      have i4 : SameX [dn, lf, lc] H (upd H4 lc (.lst (st.2.map vN ++ [V.int 0]))) := g4.put (by simp) _
      have i5 : (upd H4 lc (.lst (st.2.map vN ++ [V.int 0]))) b = some (.ins C dx (fsB dn lf lc)) := by rw [upd_ne hbc]; exact b4
      have i1 : (upd H4 lc (.lst (st.2.map vN ++ [V.int 0]))) dn = some (.dT (kvB (bkK st.1 x))) := by unfold bkK; rw [if_neg hx, upd_ne hnc]; exact n4
      have i2 : (upd H4 lc (.lst (st.2.map vN ++ [V.int 0]))) lf = some (.lst ((bkK st.1 x).map fun x => vT x.2)) := by unfold bkK; rw [if_neg hx, upd_ne G.ne, List.map_append]; exact f4
      have i3 : (upd H4 lc (.lst (st.2.map vN ++ [V.int 0]))) lc = some (.lst ((bkA st.1 st.2 x).map vN)) := by unfold bkA; rw [if_neg hx, upd_same, List.map_append]; rfl
      generalize upd H4 lc (.lst (st.2.map vN ++ [V.int 0])) = H5 at i1 i2 i3 i4 i5; exact tail _ i4 i5 i1 i2 i3
    . rw [kvB_in hx]
      have i1 : H1 dn = some (.dT (kvB (bkK st.1 x))) := by unfold bkK; rw [if_pos hx]; exact s1 _ _ G.nu
      have i2 : H1 lf = some (.lst ((bkK st.1 x).map fun x => vT x.2)) := by unfold bkK; rw [if_pos hx]; exact s1 _ _ G.fo
      have i3 : H1 lc = some (.lst ((bkA st.1 st.2 x).map vN)) := by unfold bkA; rw [if_pos hx]; exact s1 _ _ G.co
      have i4 := Same.x s1 [dn, lf, lc]; have i5 := s1 _ _ hob; refine ⟨_, rfl, iteF ?_⟩; exact tail _ i4 i5 i1 i2 i3
  case tail =>
    intro H8 g8 b8 n8 f8 c8; refine ⟨_, rfl, b, C, dx, _, _, rfl, b8, cl.cls, cl.nu, lkN, _, rfl, _, rfl, (by show 2 <= sizeLine; decide), fun p3 hp3 => ?_⟩
    have s9 := same_new hp3 (.tup [V.str (told x.1), vT x.2]); have et3 : (upd H8 p3 (.tup [V.str (told x.1), vT x.2])) p3 = some (.tup ((keyB x).map kV)) := upd_same; generalize upd H8 p3 (.tup [V.str (told x.1), vT x.2]) = H9 at s9 et3; have hxin : x ∈ bkK st.1 x := List.mem_of_getElem? (bkK_at x)
    have hix : (bkK st.1 x).idxOf x = st.1.idxOf x := by
      unfold bkK
      split
      . rfl
      . rename_i hx
        rw [List.idxOf_append, if_neg hx, List.idxOf_cons_self, List.idxOf_eq_length hx, Nat.zero_add]
    have dg : DGet H9 dn (.ref p3) (some (vN (st.1.idxOf x))) := by
      have := DGet.t (s9 _ _ n8) et3; rw [kvB_in hxin, hix] at this; exact this
    refine ⟨dn, _, rfl, dg, ?_⟩; have hat := at_map (f := vN) (bkA_at G.len x); have b9 := s9 _ _ b8; have c9 := s9 _ _ c8; refine ⟨_, rfl, b, C, dx, _, _, rfl, b9, cl.cls, cl.co, lkC, _, rfl, lc, _, _, _, rfl, rfl, SqL.of c9, hat, _, _, rfl, rfl, ?_⟩; have hil : st.1.idxOf x < ((bkA st.1 st.2 x).map vN).length := by rw [List.length_map, bkA_len G.len]; exact bk_idx x
    refine ⟨_, rfl, b, C, dx, _, _, rfl, b9, cl.cls, cl.co, lkC, _, rfl, lc, _, _, _, rfl, rfl, c9, ixN_nat hil, ?_⟩
    have hset : ((bkA st.1 st.2 x).map vN).set (st.1.idxOf x) (.int ((((bkA st.1 st.2 x).getD (st.1.idxOf x) 0 : Nat) : Int) + 1)) = (bkT st.1 st.2 x).map vN := by
      unfold bkT bkN
      rw [List.map_set]
      rfl
    rw [hset]; have g10 : SameX [dn, lf, lc] H (upd H9 lc (.lst ((bkT st.1 st.2 x).map vN))) := (g8.trans (Same.x s9 _)).put (by simp) _
    have b10 : (upd H9 lc (.lst ((bkT st.1 st.2 x).map vN))) b = some (.ins C dx (fsB dn lf lc)) := by rw [upd_ne hbc]; exact b9
    have n10 : (upd H9 lc (.lst ((bkT st.1 st.2 x).map vN))) dn = some (.dT (kvB (bkK st.1 x))) := by rw [upd_ne hnc]; exact s9 _ _ n8
    have f10 : (upd H9 lc (.lst ((bkT st.1 st.2 x).map vN))) lf = some (.lst ((bkK st.1 x).map fun x => vT x.2)) := by rw [upd_ne G.ne]; exact s9 _ _ f8
    have c10 : (upd H9 lc (.lst ((bkT st.1 st.2 x).map vN))) lc = some (.lst ((bkT st.1 st.2 x).map vN)) := upd_same; generalize upd H9 lc (.lst ((bkT st.1 st.2 x).map vN)) = H10 at g10 b10 n10 f10 c10; refine ⟨_, rfl, _, rfl, b, C, dx, _, _, rfl, b10, cl.cls, cl.co, lkC, _, rfl, lc, _, _, _, rfl, rfl, SqL.of c10, at_map (bkT_at G.len x), (by show 2 <= sizeLine; decide), fun p4 hp4 => ?_⟩
    have s11 := same_new hp4 (.tup [vN (st.1.idxOf x), vN (bkN st.1 st.2 x)]); exact q p4 _ (g10.trans (Same.x s11 _)) ⟨⟨dx, s11 _ _ b10⟩, s11 _ _ n10, s11 _ _ f10, s11 _ _ c10, bkT_len G.len x, G.ne⟩ upd_same
theorem scMRooted : FnScope ["self", "above"] ["self", "above"] (defScope sMRooted) := ⟨rfl, rfl, rfl, by decide +kernel, rfl, by decide +kernel, by decide +kernel⟩
theorem ok_mRooted {C CN f1 f2 : Addr} {d1 d2 : FuncData} (F : Fun K "rooted" "Book.rooted" sMRooted f fd) (cl : BookC K C) (GM : KitM P w K mg base CX0 1 C "one_more" ["self", "told_as", "form"] (spOneMore C) f1 d1) (GF : KitE P w K mg base 3 "form_of" ["above"] (spFormX CN) f2 d2) :
    FnOk P w K mg base (CXe P w) 4 f fd ["self", "above"] (spTreeM C CN true) := by
  refine F.okX scMRooted (fun vs H Q E h => ?_) (fun cdv A outer s H vs Q E hr h => ?_)
  . obtain ⟨b, dn, lf, lc, st, v, o, rfl, _⟩ := h
    rfl
  obtain ⟨b, dn, lf, lc, st, v, o, rfl, G, hn, hX, q, qe⟩ := h; obtain ⟨a, A, rfl, ha, hA⟩ := hX; have hr1 : Room 1 _ := hr.mono (by decide)
  refine ⟨_, pss_one (ps_ret (pe_meth (pv 0) cl.cls GM.mt GM.ok hr1 GM.bd .nil pass0 (pa_cons pe_str (pa_cons (pe_call GF.ok hr rfl GF.mg GF.kp GF.bd .nil passX (pa_cons (pv 1) pa_nil)) pa_nil)))), ?_⟩; obtain ⟨dx, hob⟩ := G.ob
  cases o with
  | none =>
    obtain ⟨h1, h2, _⟩ := hA; exact ⟨_, rfl, b, dx, _, rfl, hob, lk0 (by decide +kernel) (by decide +kernel) (by decide +kernel), _, rfl, a, A, rfl, ha, by omega, fun ab r rk H1 e T _ => absurd ⟨ab, r, rk, e, T⟩ h2, fun _ H1 s1 => qe rfl H1 s1⟩
  | some x =>
    refine hld fun g_ k_ => ?_; obtain ⟨ab, r, rk, rfl, T, _, hl, rfl⟩ := hA; refine k_ ?_; refine ⟨_, rfl, b, dx, _, rfl, hob, lk0 (by decide +kernel) (by decide +kernel) (by decide +kernel), _, rfl, a, _, rfl, ha, by rw [List.length_map]; omega, fun ab' r' rk' H1 e T' s1 => ?_, fun h => absurd ⟨ab, r, rk, rfl, T⟩ h⟩
    have e' := toI_inj e; subst e'; have er : r' = r := T.only r' T'.root; subst er; exact ⟨b, dn, lf, lc, st, (true, fm ab r'), rfl, G.up s1, hn, fun p H2 s2 G2 e2 => q _ rfl p H2 ((Same.x s1 _).trans s2) G2 e2⟩
theorem scMFree : FnScope ["self", "tree"] ["self", "tree"] (defScope sMFree) := ⟨rfl, rfl, rfl, by decide +kernel, rfl, by decide +kernel, by decide +kernel⟩
theorem ok_mFree {C CN f1 f2 : Addr} {d1 d2 : FuncData} (F : Fun K "free" "Book.free" sMFree f fd) (cl : BookC K C) (GM : KitM P w K mg base CX0 1 C "one_more" ["self", "told_as", "form"] (spOneMore C) f1 d1) (GF : KitE P w K mg base 4 "free_form" ["tree"] (spFreeForm CN) f2 d2) :
    FnOk P w K mg base (CXe P w) 5 f fd ["self", "tree"] (spTreeM C CN false) := by
  refine F.okX scMFree (fun vs H Q E h => ?_) (fun cdv A outer s H vs Q E hr h => ?_)
  . obtain ⟨b, dn, lf, lc, st, v, o, rfl, _⟩ := h
    rfl
  obtain ⟨b, dn, lf, lc, st, v, o, rfl, G, hn, hX, q, qe⟩ := h; obtain ⟨t, L, ps, c, li, rfl, hT, hA⟩ := hX; have hr1 : Room 1 _ := hr.mono (by decide)
  refine ⟨_, pss_one (ps_ret (pe_meth (pv 0) cl.cls GM.mt GM.ok hr1 GM.bd .nil pass0 (pa_cons pe_str (pa_cons (pe_call GF.ok hr rfl GF.mg GF.kp GF.bd .nil passX (pa_cons (pv 1) pa_nil)) pa_nil)))), ?_⟩; obtain ⟨dx, hob⟩ := G.ob
  cases o with
  | none =>
    obtain ⟨h1, h2, _⟩ := hA; exact ⟨_, rfl, b, dx, _, rfl, hob, lk0 (by decide +kernel) (by decide +kernel) (by decide +kernel), _, rfl, t, L, ps, c, li, rfl, hT, by omega, fun h => absurd h h2, fun _ H1 s1 => qe rfl H1 s1⟩
  | some x =>
    refine hld fun g_ k_ => ?_; obtain ⟨n, ls, rfl, rfl, F, h0, hl, rfl⟩ := hA; refine k_ ?_; obtain ⟨hF, hll⟩ := freeL_of F; refine ⟨_, rfl, b, dx, _, rfl, hob, lk0 (by decide +kernel) (by decide +kernel) (by decide +kernel), _, rfl, t, L, ps, _, _, rfl, hT, by omega, fun _ H1 s1 => ?_, fun h => absurd hF h⟩
    rw [hll, ofL_toL]; exact ⟨b, dn, lf, lc, st, (false, ff n ls), rfl, G.up s1, hn, fun p H2 s2 G2 e2 => q _ rfl p H2 ((Same.x s1 _).trans s2) G2 e2⟩
theorem scMForm : FnScope ["self", "kind"] ["self", "kind"] (defScope sMForm) := ⟨rfl, rfl, rfl, by decide +kernel, rfl, by decide +kernel, by decide +kernel⟩
theorem ok_mForm {C CK : Addr} (F : Fun K "form" "Book.form" sMForm f fd) (cl : BookC K C) (ml : mg "len" = none) (mC : mg "NoKind" = some (.ref CK)) (xc : XC K CK) : FnOk P w K mg base (CXe P w) 1 f fd ["self", "kind"] (spFormM C CK) := by
  refine F.okX scMForm (fun vs H Q E h => ?_) (fun cdv A outer s H vs Q E hr h => ?_)
  . obtain ⟨b, dn, lf, lc, st, i, rfl, _⟩ := h
    rfl
  obtain ⟨b, dn, lf, lc, st, i, rfl, G, hn, q, qe⟩ := h
  refine ⟨_, pss_cons (ps_if (PW.pt (pw_or (pt_cmpR op_lt (pv 1) pe_int (nomark _)) (pw_or1 (pt_cmpR op_ge (pv 1) (pe_callB call_len_seq rfl ml PySem.boot_len (pa_cons (pe_fld (pv 0) rfl) pa_nil)) (nomark _))))) (pss_one (ps_raise xc rfl xraise rfl mC (pa_cons pe_str pa_nil))) pss_nil)
    (pss_one (ps_ret (pe_ix ix_list (pe_fld (pv 0) rfl) (pv 1) (fun _ _ => rfl)))), ?_⟩
  obtain ⟨dx, hob⟩ := G.ob; refine ⟨_, rfl, _, _, rfl, rfl, _, rfl, ?_⟩; have hl : (st.1.map fun x => vT x.2).length = st.1.length := List.length_map _
  by_cases h0 : i < 0
  . rw [decide_eq_true h0]
    exact iteT ⟨by decide, qe (.inl h0) H (Same.refl _)⟩
  rw [decide_eq_false h0]; refine iteF ⟨_, rfl, _, rfl, b, C, dx, _, _, rfl, hob, cl.cls, cl.fo, lkF, lf, _, rfl, .inl (SqL.of G.fo), _, _, rfl, rfl, _, rfl, ?_⟩; rw [hl]
  by_cases h1 : (st.1.length : Int) <= i
  . rw [decide_eq_true h1]
    exact iteT ⟨by decide, qe (.inr h1) H (Same.refl _)⟩
  rw [decide_eq_false h1]; obtain ⟨k, rfl⟩ := Int.eq_ofNat_of_zero_le (show 0 <= i by omega)
  have hk : k < st.1.length := by omega
  have hx : st.1[k]? = some (st.1.getD k (true, [])) := by rw [List.getD_eq_getElem?_getD, List.getElem?_eq_getElem hk]; rfl
  exact iteF ⟨_, rfl, b, C, dx, _, _, rfl, hob, cl.cls, cl.fo, lkF, _, rfl, lf, _, _, _, rfl, rfl, SqL.of G.fo, at_map (f := fun x : Kd => vT x.2) hx, q (by omega) H (Same.refl _)⟩
end
end K13
namespace K13
open PySem L2 KM KD PyProof.Rows
section
variable {P : Program} {w : World} {K : PySem.W.Frag} {mg : Str -> Option Value} {base : Heap} {f : Addr} {fd : FuncData}
theorem strNe {a b : Str} {A B : Prop} (h : a ≠ b) (hb : B) : if decide (V.str a = V.str b) = true then A else B := by
  rw [decide_eq_false (fun z => h (V.str.inj z))]; exact iteF hb
theorem strEq {a b : Str} {A B : Prop} (h : a = b) (ha : A) : if decide (V.str a = V.str b) = true then A else B := by
  rw [decide_eq_true (by rw [h])]
  exact iteT ha
theorem scAnswer : FnScope ["book", "deed"] ["book", "deed"] (defScope sAnswer) := ⟨rfl, rfl, rfl, by decide +kernel, rfl, by decide +kernel, by decide +kernel⟩
theorem ok_answer {C CN CK f1 f2 f3 : Addr} {d1 d2 d3 : FuncData} (F : Fun K "answer" "answer" sAnswer f fd) (cl : BookC K C) (GR : KitM P w K mg base (CXe P w) 4 C "rooted" ["self", "above"] (spTreeM C CN true) f1 d1) (GF : KitM P w K mg base (CXe P w) 5 C "free" ["self", "tree"] (spTreeM C CN false) f2 d2)
    (GK : KitM P w K mg base (CXe P w) 1 C "form" ["self", "kind"] (spFormM C CK) f3 d3) (mN : mg "NoTree" = some (.ref CN)) (mK : mg "NoKind" = some (.ref CK)) (y1 : PySem.W.exmOne K (.ref CN) (.ref CN) = some true) (y2 : PySem.W.exmOne K (.ref CK) (.ref CN) = some false) (y3 : PySem.W.exmOne K (.ref CK) (.ref CK) = some true) :
    FnOk P w K mg base CX0 6 f fd ["book", "deed"] (spAnswer C) := by
  refine F.ok scAnswer (fun vs H Q E h => ?_) (fun cdv A outer s H vs Q E hr h => ?_)
  . obtain ⟨b, dn, lf, lc, t, st, d, rfl, _⟩ := h
    rfl
  obtain ⟨b, dn, lf, lc, t, st, d, rfl, G, hn, hd, q⟩ := h; have hr4 : Room 4 _ := hr.mono (by decide)
  have hr1 : Room 1 _ := hr.mono (by decide)
  refine ⟨_, pss_one (ps_try (psx_cons (psx_if (pt_cmpR op_eq (pe_ix ix_tup (pv 1) pe_int (fun _ _ => rfl)) pe_str (nomark _)) (psx_one (psx_ret (pex_meth (pv 0) cl.cls GR.mt GR.ok hr4 GR.bd .nil (pa_cons (pe_ix ix_tup (pv 1) pe_int (fun _ _ => rfl)) pa_nil)))) psx_nil)
    (psx_cons (psx_if (pt_cmpR op_eq (pe_ix ix_tup (pv 1) pe_int (fun _ _ => rfl)) pe_str (nomark _)) (psx_one (psx_ret (pex_meth (pv 0) cl.cls GF.mt GF.ok hr GF.bd .nil (pa_cons (pe_ix ix_tup (pv 1) pe_int (fun _ _ => rfl)) pa_nil)))) psx_nil)
    (psx_one (psx_ret (pex_meth (pv 0) cl.cls GK.mt GK.ok hr1 GK.bd .nil (pa_cons (pe_ix ix_tup (pv 1) pe_int (fun _ _ => rfl)) pa_nil))))))
    (ph_plain ⟨rfl, .inl mN⟩ (fun _ => pss_one (ps_ret pe_str)) (ph_plain ⟨rfl, .inl mK⟩ (fun _ => pss_one (ps_ret pe_str)) ph_never)) pss_nil), ?_⟩
  obtain ⟨dx, hob⟩ := G.ob
  match d, hd, q with
  | .fo i, hd, q =>
    have ht : H t = some (.tup [.str "form", .int i]) := hd; refine ⟨_, rfl, t, _, _, _, rfl, rfl, SqT.of ht, rfl, rfl, _, rfl, strNe (by decide +kernel) ?_⟩
    refine ⟨_, rfl, t, _, _, _, rfl, rfl, SqT.of ht, rfl, rfl, _, rfl, strNe (by decide +kernel) ?_⟩
    refine ⟨_, rfl, b, dx, _, rfl, hob, lk0 (by decide +kernel) (by decide +kernel) (by decide +kernel), _, rfl, t, _, _, _, rfl, rfl, SqT.of ht, rfl, b, dn, lf, lc, st, i, rfl, G, hn, fun hi H' s' => ?_, fun hi H' s' => ?_⟩
    . refine q _ H' (Same.x s' _) (G.up s') ?_
      show AnsAt H' _ (if i < 0 \/ (st.1.length : Int) <= i then .nk else .tx (st.1.getD i.toNat (true, [])).2)
      rw [if_neg hi]
      rfl
    . refine ⟨false, y2, iteF ⟨true, y3, iteT (q _ H' (Same.x s' _) (G.up s') ?_)⟩⟩
      show AnsAt H' _ (if i < 0 \/ (st.1.length : Int) <= i then .nk else .tx (st.1.getD i.toNat (true, [])).2)
      rw [if_pos hi]
      rfl
  | .tr true o, ⟨v, ht, hA⟩, q =>
    have ht : H t = some (.tup [.str "rooted", v]) := ht; refine ⟨_, rfl, t, _, _, _, rfl, rfl, SqT.of ht, rfl, rfl, _, rfl, strEq rfl ?_⟩; refine ⟨_, rfl, b, dx, _, rfl, hob, lk0 (by decide +kernel) (by decide +kernel) (by decide +kernel), _, rfl, t, _, _, _, rfl, rfl, SqT.of ht, rfl, b, dn, lf, lc, st, v, o, rfl, G, hn, hA.any, fun x ho p H' s' G' ep => ?_, fun ho H' s' => ?_⟩
    . subst ho
      exact q _ H' s' G' ⟨p, rfl, ep⟩
    . subst ho
      exact ⟨true, y1, iteT (q _ H' (Same.x s' _) (G.up s') rfl)⟩
  | .tr false o, ⟨v, ht, hA⟩, q =>
    have ht : H t = some (.tup [.str "free", v]) := ht; refine ⟨_, rfl, t, _, _, _, rfl, rfl, SqT.of ht, rfl, rfl, _, rfl, strNe (by decide +kernel) ?_⟩
    refine ⟨_, rfl, t, _, _, _, rfl, rfl, SqT.of ht, rfl, rfl, _, rfl, strEq rfl ?_⟩; refine ⟨_, rfl, b, dx, _, rfl, hob, lk0 (by decide +kernel) (by decide +kernel) (by decide +kernel), _, rfl, t, _, _, _, rfl, rfl, SqT.of ht, rfl, b, dn, lf, lc, st, v, o, rfl, G, hn, hA.any, fun x ho p H' s' G' ep => ?_, fun ho H' s' => ?_⟩
    . subst ho
      exact q _ H' s' G' ⟨p, rfl, ep⟩
    . subst ho
      exact ⟨true, y1, iteT (q _ H' (Same.x s' _) (G.up s') rfl)⟩
theorem scAnswers : FnScope ["deeds", "book"] ["deeds"] (defScope sAnswers) := ⟨rfl, rfl, rfl, by decide +kernel, rfl, by decide +kernel, by decide +kernel⟩
theorem ndDB : (["deed", "book"] : List Str).Nodup := by decide +kernel
theorem ok_answers {C fi f1 : Addr} {di d1 : FuncData} (F : Fun K "answers" "answers" sAnswers f fd) (mk : Mk K C fi) (GI : FnOk P w K mg base CX0 1 fi di ["self"] (spInitB C)) (bI : Binds K di ["self"] []) (mB : mg "Book" = some (.ref C)) (GA : Kit P w K mg base 6 "answer" ["book", "deed"] (spAnswer C) f1 d1) :
    FnOk P w K mg base CX0 7 f fd ["deeds"] spAnswers := by
  refine F.ok scAnswers (fun vs H Q E h => ?_) (fun cdv A outer s H vs Q E hr h => ?_)
  . obtain ⟨l, rs, ds, rfl, _⟩ := h
    rfl
  obtain ⟨l, rs, ds, rfl, G, hn, q⟩ := h; have hr2 : Room 2 _ := hr.mono (by decide)
  refine ⟨_, pss_cons (ps_set (i := 1) scAnswers.nd rfl (Or.inr rfl) (pe_make0 mk GI hr2 rfl mB bI .nil pass0))
    (pss_one (ps_ret (pe_comp (N' := ["deed", "book"]) (js := [none, some 1])
          (CompOk.free1 (x := "book") (nms := [(".0", .local), ("deed", .local), ("answer", .globalImplicit), ("book", .cell)]) rfl (by decide +kernel) (by decide +kernel) rfl rfl rfl rfl (by decide +kernel) (by
            intro j i h
            match j, h with
            | 0, h => cases h
            | 1, h => cases h; exact ⟨rfl, rfl⟩) rfl (Or.inl rfl)) rfl
          (pi_list (pv 0)) (fun _ _ _ _ => pg_name (i := 0) ndDB rfl (Or.inl rfl)) (fun _ _ _ _ => pif_nil)
          (fun _ _ _ _ => pe_call GA.ok hr rfl GA.mg GA.kp GA.bd .nil pass0 (pa_cons (pv 1) (pa_cons (pv 0) pa_nil)))))), ?_⟩
  intro b dx hb hdx hne; have s0 : Same H (upd (upd H dx (.own b)) b (.ins C dx [])) := (same_new hdx _).trans (same_new (by rw [upd_ne (Ne.symm hne)]; exact hb) _)
  refine ⟨b, dx, rfl, upd_same, fun dn lf lc H1 sx h1 h2 h3 B => ⟨rfl, ?_⟩⟩; have s1 : Same H H1 := fun a o h => sx a o (by rw [List.mem_singleton]; exact ne_of_none h hb) (s0 a o h)
  have n1 := s0.free h1; have n2 := s0.free h2; have n3 := s0.free h3
  have hD0 : ∀ x ∈ [dn, lf, lc], H x = none := fun x hx => by
    rcases List.mem_cons.mp hx with rfl | hx
    . exact n1
    . rcases List.mem_cons.mp hx with rfl | hx
      . exact n2
      . rw [List.mem_singleton.mp hx]; exact n3
  have hlr : (rs.map V.ref).length = ds.length := by rw [List.length_map, G.len]
  refine ⟨_, rfl, l, rfl, ⟨_, SqL.of (s1 _ _ G.top)⟩, ?_⟩; refine comp_listF (xs := rs.map V.ref) (fun D i ys τ H5 => (∃ o, τ = [o, some (.ref b)]) /\ Same H H5 /\ H1 D = none /\ H5 D = some (.lst ys) /\ ys.length = i /\ BookAt C H5 b dn lf lc (sAt ds i) /\ ∀ (j : Nat) (v : V) (d : DD), ys[j]? = some v -> ds[j]? = some d -> AnsAt H5 v (ans (sAt ds j) d)) ?_ ?_ ?_ ?_
  . intro D hD
    refine ⟨⟨_, rfl⟩, s1.trans (same_new hD _), hD, upd_same, rfl, ?_, fun j v d h => (nomatch h)⟩; rw [sAt_zero]; exact B.up (same_new hD _)
  . rintro D i ys τ H5 hi ⟨_, s5, _⟩
    exact SqL.of (s5 _ _ G.top)
  . rintro D i x ys τ H5 hx p_
    refine hld fun g_ k_ => ?_; obtain ⟨⟨o, rfl⟩, s5, hD, e5, hyl, B5, hans⟩ := p_; refine k_ ?_; obtain ⟨t, ht, rfl⟩ := of_map hx; have hi : i < ds.length := by rw [<- G.len]; exact (List.getElem?_eq_some_iff.mp ht).1
    have hdi : ds[i]? = some ds[i] := List.getElem?_eq_getElem hi; have hdt := (G.each i t _ ht hdi).up s5; have hok := sOk_at G.hd i (Nat.le_of_lt hi)
    dsimp only [gName, tAlways]
    rw [if_pos rfl]; refine ⟨_, rfl, _, rfl, b, dn, lf, lc, t, _, _, rfl, B5, by have := hok.le; omega, hdt, fun v H6 s6 B6 hv => ?_⟩
    have hDn : D ∉ [dn, lf, lc] := fun z => by
      rcases List.mem_cons.mp z with rfl | z
      . rw [B.nu] at hD; cases hD
      . rcases List.mem_cons.mp z with rfl | z
        . rw [B.fo] at hD; cases hD
        . rw [List.mem_singleton.mp z, B.co] at hD; cases hD
    have hbD : b ≠ D := fun z => by
      obtain ⟨dx', hob⟩ := B.ob; rw [z, hD] at hob
      cases hob
    have e6 := s6 _ _ hDn e5; have up6 : ∀ p xs, H5 p = some (.tup xs) -> H6 p = some (.tup xs) := fun p xs h => s6 _ _ (B5.tup h) h; have upD : ∀ p xs, H6 p = some (.tup xs) -> (upd H6 D (.lst (ys ++ [v]))) p = some (.tup xs) := fun p xs h => by rw [upd_ne (ne_of h e6 (fun z => nomatch z))]; exact h
    have hHD := s1.free hD; refine ⟨e6, smallt (by omega), Nx.mk (by rw [hlr]; exact hi) ⟨⟨_, rfl⟩, ?_, hD, upd_same, by rw [List.length_append, hyl]; rfl, ?_, fun j u d h1 h2 => ?_⟩⟩
    . exact same_upd (SameX.base s5 s6 hD0) hHD _
    . rw [sAt_succ hdi]
      exact B6.upX (D := [D]) ((Same.x (Same.refl _) _).put (by simp) _) (by simpa using hbD) (by simpa using fun z => hDn (by rw [<- z]; simp)) (by simpa using fun z => hDn (by rw [<- z]; simp)) (by simpa using fun z => hDn (by rw [<- z]; simp))
    . by_cases hj : j < ys.length
      . rw [List.getElem?_append_left hj] at h1
        exact ((hans j u d h1 h2).up up6).up upD
      . rw [List.getElem?_append_right (by omega)] at h1
        have h0 := (List.getElem?_eq_some_iff.mp h1).1; rw [List.length_singleton] at h0; have ej : j = i := by omega
        subst ej; rw [show j - ys.length = 0 by omega] at h1
        cases h1
        rw [hdi] at h2
        cases h2
        exact hv.up upD
  . rintro D ys τ H5 p_
    refine hld fun g_ k_ => ?_; obtain ⟨_, s5, hD, e5, hyl, B5, hans⟩ := p_; refine k_ ?_; exact q D ys H5 s5 e5 (by rw [hyl, hlr]) hans
end
end K13
namespace K13
open PySem L2 KM KD PyProof.Rows
section
variable {P : Program} {w : World} {K : PySem.W.Frag} {mg : Str -> Option Value} {base : Heap} {f : Addr} {fd : FuncData}
theorem beqT (x : Str) : scal (.str x) (.str x) = true := rfl
theorem scAlike : FnScope ["_law_found", "_law_due"] ["_law_found", "_law_due"] (defScope sAlike) := ⟨rfl, rfl, rfl, by decide +kernel, rfl, by decide +kernel, by decide +kernel⟩
theorem ok_alikeA {f1 : Addr} {d1 : FuncData} (F : Fun K "_law_alike" "_law_alike" sAlike f fd) (GW : Kit P w K mg base 1 "_law_whole" ["_law_found"] spWhole f1 d1) (ml : mg "len" = none) (mi : mg "isinstance" = none) (mst : mg "str" = none) (mtu : mg "tuple" = none) : FnOk P w K mg base CX0 2 f fd ["_law_found", "_law_due"] spAlikeA := by
  refine F.ok scAlike (fun vs H Q E h => ?_) (fun cdv A outer s H vs Q E hr h => ?_)
  . obtain ⟨u, v, a, rfl, _⟩ := h
    rfl
  obtain ⟨u, v, a, rfl, hu, hv, q⟩ := h
  refine ⟨_, pss_cons (ps_if (pt_val (pe_callB call_isi rfl mi boot_isinstance (pa_cons (pv 1) (pa_cons (pe_bltn (v := .ty "str") rfl mst PyProof.Rows.boot_str rfl) pa_nil))))
      (pss_one (ps_ret (pe_and (pe_callB call_isi rfl mi boot_isinstance (pa_cons (pv 0) (pa_cons (pe_bltn (v := .ty "str") rfl mst PyProof.Rows.boot_str rfl) pa_nil))) (pe_one (pe_cmpR op_eq (pv 0) (pv 1) (nomark _)))))) pss_nil)
    (pss_cons (ps_if (PW.pt (pw_or (pt_not (pt_val (pe_callB call_isi rfl mi boot_isinstance (pa_cons (pv 0) (pa_cons (pe_bltn (v := .ty "tuple") rfl mtu PyProof.Rows.boot_tuple rfl) pa_nil)))))
      (pw_or1 (pt_cmpR op_ne (pe_callB call_len_seq rfl ml PySem.boot_len (pa_cons (pv 0) pa_nil)) pe_int (nomark _))))) pss_never pss_nil)
    (pss_one (ps_ret (pe_and (pe_call GW.ok hr rfl GW.mg GW.kp GW.bd .nil pass0 (pa_cons (pe_ix ix_tup (pv 0) pe_int (fun _ _ => rfl)) pa_nil)) (pe_and (pe_call GW.ok hr rfl GW.mg GW.kp GW.bd .nil pass0 (pa_cons (pe_ix ix_tup (pv 0) pe_int (fun _ _ => rfl)) pa_nil))
      (pe_one (pe_cmpR (op_eqT hr.units0) (pv 0) (pv 1) (nomark _)))))))), ?_⟩
  have hc : (∃ x, u = .str x /\ v = .str x) \/ ∃ (i n : Nat) (p p' : Addr), u = .ref p /\ v = .ref p' /\ H p = some (.tup [vN i, vN n]) /\ H p' = some (.tup [vN i, vN n]) := by
    match a, hu, hv with
    | .tx t, hu, hv => exact .inl ⟨_, hu, hv⟩
    | .nt, hu, hv => exact .inl ⟨_, hu, hv⟩
    | .nk, hu, hv => exact .inl ⟨_, hu, hv⟩
    | .pr i n, ⟨p, e1, h1⟩, ⟨p', e2, h2⟩ => exact .inr ⟨i, n, p, p', e1, e2, h1, h2⟩
  rcases hc with ⟨x, rfl, rfl⟩ | ⟨i, n, p, p', rfl, rfl, h1, h2⟩
  . refine ⟨_, rfl, _, _, _, _, rfl, TyOf.str x, kitStr K, _, rfl, iteT ⟨_, rfl, _, _, _, _, rfl, TyOf.str x, kitStr K, _, rfl, iteT ⟨_, rfl, _, rfl, beqT x, ?_⟩⟩⟩
    rw [decide_eq_true rfl]; exact q H (Same.refl _)
  . refine ⟨_, rfl, _, _, _, _, rfl, TyOf.tup h2, (show PySem.W.kitOne K (.type "tuple") (.type "str") = some false from rfl), _, rfl, iteF ?_⟩
    refine ⟨_, rfl, _, _, _, _, rfl, TyOf.tup h1, kitTup K, _, rfl, iteF ?_⟩; refine ⟨_, rfl, p, _, rfl, .inr (SqT.of h1), rfl, _, rfl, iteNS rfl ?_⟩; refine ⟨_, rfl, p, _, _, _, rfl, rfl, SqT.of h1, rfl, _, rfl, fun H1 s1 => ⟨_, rfl, iteT ?_⟩⟩; refine ⟨_, rfl, p, _, _, _, rfl, rfl, SqT.of (s1 _ _ h1), rfl, _, rfl, fun H2 s2 => ⟨_, rfl, iteT ?_⟩⟩; have s12 := s1.trans s2; refine ⟨_, rfl, _, rfl, p, p', _, _, rfl, rfl, SqT.of (s12 _ _ h1), SqT.of (s12 _ _ h2), rfl, rfl, ?_⟩; rw [eqL_self (show [vN i, vN n].all flatV = true from rfl)]
    exact q H2 s12
theorem scHandIs : FnScope ["_law_told", "_law_due"] ["_law_told", "_law_due"] (defScope sHandIs) := ⟨rfl, rfl, rfl, by decide +kernel, rfl, by decide +kernel, by decide +kernel⟩
theorem noT (t : Tx) (h : t.head? = some 40) : inV (vT t) [V.str "no tree", V.str "no kind"] = false := by
  cases t with
  | nil => cases h
  | cons c t =>
    cases h
    have ne : ∀ x : Str, x.cps[0]? = some 110 -> eqV (.str x) (vT (40 :: t)) = false := fun x hx => by
      show (x == mkS (40 :: t)) = false
      rw [beq_eq_false_iff_ne]
      rintro rfl
      exact absurd hx (by show ((40 :: t).toArray)[0]? ≠ some 110; simp)
    show (eqV (V.str "no tree") _ || (eqV (V.str "no kind") _ || false)) = false
    rw [ne _ (by decide +kernel), ne _ (by decide +kernel)]
    rfl
theorem ok_handIs {f1 : Addr} {d1 : FuncData} (F : Fun K "_law_hand_is" "_law_hand_is" sHandIs f fd) (GA : Kit P w K mg base 2 "_law_alike" ["_law_found", "_law_due"] spAlikeA f1 d1) (mi : mg "isinstance" = none) (mst : mg "str" = none) (mtu : mg "tuple" = none) : FnOk P w K mg base CX0 3 f fd ["_law_told", "_law_due"] spHandIs := by
  refine F.ok scHandIs (fun vs H Q E h => ?_) (fun cdv A outer s H vs Q E hr h => ?_)
  . obtain ⟨u, v, a, rfl, _⟩ := h
    rfl
  obtain ⟨u, v, a, rfl, hu, hv, hd, q⟩ := h
  refine ⟨_, pss_cons (ps_if (PW.pt (pw_and (pt_val (pe_callB call_isi rfl mi boot_isinstance (pa_cons (pv 1) (pa_cons (pe_bltn (v := .ty "str") rfl mst PyProof.Rows.boot_str rfl) pa_nil)))) (pw_and1 (pt_cmpR op_in_seq (pv 1) (pe_tup (pa_cons pe_str (pa_cons pe_str pa_nil))) rfl))))
      (pss_one (ps_ret (pe_and (pe_callB call_isi rfl mi boot_isinstance (pa_cons (pv 0) (pa_cons (pe_bltn (v := .ty "tuple") rfl mtu PyProof.Rows.boot_tuple rfl) pa_nil))) (pe_one (pe_cmpR (op_eqT hr.units0) (pv 0) (pe_tup (pa_cons pe_str (pa_cons (pv 1) pa_nil))) (nomark _)))))) pss_nil)
    (pss_one (ps_ret (pe_call GA.ok hr rfl GA.mg GA.kp GA.bd .nil pass0 (pa_cons (pv 0) (pa_cons (pv 1) pa_nil))))), ?_⟩
  have hc : (∃ (x : Str) (p : Addr), inV (.str x) [V.str "no tree", V.str "no kind"] = true /\ v = .str x /\ u = .ref p /\ H p = some (.tup [.str "refused", .str x])) \/ (∃ t, t.head? = some 40 /\ a = .tx t /\ u = vT t /\ v = vT t) \/ ∃ (i n : Nat) (p p' : Addr), a = .pr i n /\ u = .ref p /\ v = .ref p' /\ H p = some (.tup [vN i, vN n]) /\ H p' = some (.tup [vN i, vN n]) := by
    match a, hu, hv, hd with
    | .tx t, hu, hv, hd => exact .inr (.inl ⟨t, hd, rfl, hu, hv⟩)
    | .nt, ⟨p, e1, h1⟩, hv, _ => exact .inl ⟨_, p, by decide +kernel, hv, e1, h1⟩
    | .nk, ⟨p, e1, h1⟩, hv, _ => exact .inl ⟨_, p, by decide +kernel, hv, e1, h1⟩
    | .pr i n, ⟨p, e1, h1⟩, ⟨p', e2, h2⟩, _ => exact .inr (.inr ⟨i, n, p, p', rfl, e1, e2, h1, h2⟩)
  rcases hc with ⟨x, p, hin, rfl, rfl, h1⟩ | ⟨t, ht, rfl, rfl, rfl⟩ | ⟨i, n, p, p', rfl, rfl, rfl, h1, h2⟩
  . refine ⟨_, rfl, _, _, _, _, rfl, TyOf.str x, kitStr K, _, rfl, iteT ⟨_, rfl, (by show 2 <= sizeLine; decide), fun c hc => ⟨c, _, rfl, .inr (SqT.of upd_same), rfl, rfl, true, ?_, iteT ?_⟩⟩⟩
    . show V.bl (inV (.str x) _) = _
      exact congrArg V.bl hin
    have s1 := same_new hc (.tup [V.str (Str.ofString "no tree"), V.str (Str.ofString "no kind")]); generalize upd H c (.tup [V.str (Str.ofString "no tree"), V.str (Str.ofString "no kind")]) = H1 at s1; have h1 := s1 _ _ h1; refine ⟨_, rfl, _, _, _, _, rfl, TyOf.tup h1, kitTup K, _, rfl, iteT ⟨_, rfl, _, rfl, (by show 2 <= sizeLine; decide), fun c2 hc2 => ?_⟩⟩
    have s2 := same_new hc2 (.tup [V.str (Str.ofString "refused"), V.str x]); refine ⟨p, c2, _, _, rfl, rfl, SqT.of (s2 _ _ h1), SqT.of upd_same, rfl, rfl, ?_⟩; have e : eqL [V.str (Str.ofString "refused"), V.str x] [V.str (Str.ofString "refused"), V.str x] = true := eqL_self rfl; have q2 := q _ (s1.trans s2); rw [<- e] at q2; exact q2
  . refine ⟨_, rfl, _, _, _, _, rfl, TyOf.str _, kitStr K, _, rfl, iteT ⟨_, rfl, (by show 2 <= sizeLine; decide), fun c hc => ⟨c, _, rfl, .inr (SqT.of upd_same), rfl, rfl, false, ?_, iteF ?_⟩⟩⟩
    . show V.bl (inV (vT t) _) = _
      exact congrArg V.bl (noT t ht)
    have s1 := same_new hc (.tup [V.str (Str.ofString "no tree"), V.str (Str.ofString "no kind")]); exact ⟨_, rfl, _, rfl, _, _, .tx t, rfl, rfl, rfl, fun H2 s2 => q H2 (s1.trans s2)⟩
  . refine ⟨_, rfl, _, _, _, _, rfl, TyOf.tup h2, (show PySem.W.kitOne K (.type "tuple") (.type "str") = some false from rfl), _, rfl, iteF (iteF ?_)⟩
    exact ⟨_, rfl, _, rfl, _, _, .pr i n, rfl, ⟨p, rfl, h1⟩, ⟨p', rfl, h2⟩, q⟩
end
end K13
namespace K13
open PySem L2 KM KD PyProof.Rows
section
variable {P : Program} {w : World} {K : PySem.W.Frag} {mg : Str -> Option Value} {base : Heap} {f : Addr} {fd : FuncData}
theorem scLike : FnScope ["_law_found", "_law_due", "_law_got_parts", "_law_due_parts", "_law_one", "_law_two"] ["_law_found", "_law_due"] (defScope sLike) := ⟨rfl, rfl, rfl, by decide +kernel, rfl, by decide +kernel, by decide +kernel⟩
theorem ok_likeN (F : Fun K "_law_like" "_law_like" sLike f fd) (ml : mg "len" = none) (mi : mg "isinstance" = none) (mli : mg "list" = none) (mtu : mg "tuple" = none) (mst : mg "str" = none) (mn : mg "int" = none) (mb : mg "bool" = none) : FnOk P w K mg base CX0 1 f fd ["_law_found", "_law_due"] spLikeN := by
  refine F.ok scLike (fun vs H Q E h => ?_) (fun cdv A outer s H vs Q E hr h => ?_)
  . obtain ⟨a, b, xs, n, rfl, _⟩ := h
    rfl
  obtain ⟨a, b, xs, n, rfl, ha, hb, hL, hn, q⟩ := h
  refine ⟨_, pss_cons (ps_set (i := 2) scLike.nd rfl (Or.inl rfl) (pe_lst (pa_cons (pv 0) pa_nil)))
    (pss_cons (ps_set (i := 3) scLike.nd rfl (Or.inl rfl) (pe_lst (pa_cons (pv 1) pa_nil)))
    (pss_cons (ps_while PassesOwn.never (pt_cmpR (op_neNil hr.units0) (pv 3) (pe_lst pa_nil) (nomark _))
      (pss_cons (ps_set (i := 4) scLike.nd rfl (Or.inl rfl) (pe_bm0 PySem.F.plainAttrs_list PySem.F.slot_list_pop PySem.F.type_list_pop mt_pop (pv 2)))
      (pss_cons (ps_set (i := 5) scLike.nd rfl (Or.inl rfl) (pe_bm0 PySem.F.plainAttrs_list PySem.F.slot_list_pop PySem.F.type_list_pop mt_pop (pv 3)))
      (pss_one (ps_if (pt_val (pe_callB call_isi rfl mi boot_isinstance (pa_cons (pv 5) (pa_cons (pe_bltn (v := .ty "list") rfl mli PyProof.Rows.boot_list rfl) pa_nil))))
        (pss_cons (ps_if (PW.pt (pw_or (pt_not (pt_val (pe_callB call_isi rfl mi boot_isinstance (pa_cons (pv 4) (pa_cons (pe_bltn (v := .ty "list") rfl mli PyProof.Rows.boot_list rfl) pa_nil)))))
            (pw_or1 (pt_cmpR op_ne (pe_callB call_len_seq rfl ml PySem.boot_len (pa_cons (pv 4) pa_nil)) (pe_callB call_len_seq rfl ml PySem.boot_len (pa_cons (pv 5) pa_nil)) (nomark _))))) pss_never pss_nil)
        (pss_cons (ps_expr (pe_bm PySem.F.plainAttrs_list PySem.F.slot_list_extend PySem.F.type_list_extend mt_extend (pv 2) (pa_cons (pv 4) pa_nil)))
        (pss_one (ps_expr (pe_bm PySem.F.plainAttrs_list PySem.F.slot_list_extend PySem.F.type_list_extend mt_extend (pv 3) (pa_cons (pv 5) pa_nil))))))
        (pss_one (ps_if (pt_val (pe_callB call_isi rfl mi boot_isinstance (pa_cons (pv 5) (pa_cons (pe_bltn (v := .ty "tuple") rfl mtu PyProof.Rows.boot_tuple rfl) pa_nil))))
        (pss_cons (ps_if (PW.pt (pw_or (pt_not (pt_val (pe_callB call_isi rfl mi boot_isinstance (pa_cons (pv 4) (pa_cons (pe_bltn (v := .ty "tuple") rfl mtu PyProof.Rows.boot_tuple rfl) pa_nil)))))
            (pw_or1 (pt_cmpR op_ne (pe_callB call_len_seq rfl ml PySem.boot_len (pa_cons (pv 4) pa_nil)) (pe_callB call_len_seq rfl ml PySem.boot_len (pa_cons (pv 5) pa_nil)) (nomark _))))) pss_never pss_nil)
        (pss_cons (ps_expr (pe_bm PySem.F.plainAttrs_list PySem.F.slot_list_extend PySem.F.type_list_extend mt_extend (pv 2) (pa_cons (pe_callTy call_list_of rfl mli PyProof.Rows.boot_list (pa_cons (pv 4) pa_nil)) pa_nil)))
        (pss_one (ps_expr (pe_bm PySem.F.plainAttrs_list PySem.F.slot_list_extend PySem.F.type_list_extend mt_extend (pv 3) (pa_cons (pe_callTy call_list_of rfl mli PyProof.Rows.boot_list (pa_cons (pv 5) pa_nil)) pa_nil))))))
        (pss_one (ps_if (pt_val (pe_callB call_isi rfl mi boot_isinstance (pa_cons (pv 5) (pa_cons (pe_bltn (v := .ty "str") rfl mst PyProof.Rows.boot_str rfl) pa_nil))))
        (pss_one (ps_if (PW.pt (pw_or (pt_not (pt_val (pe_callB call_isi rfl mi boot_isinstance (pa_cons (pv 4) (pa_cons (pe_bltn (v := .ty "str") rfl mst PyProof.Rows.boot_str rfl) pa_nil))))) (pw_or1 (pt_cmpR op_ne (pv 4) (pv 5) (nomark _))))) pss_never pss_nil))
        (pss_one (ps_if (pt_cmp (pc_isN (pv 5))) (pss_one (ps_if (pt_cmp (pc_notN (pv 4))) pss_never pss_nil))
        (pss_one (ps_if (PW.pt (pw_or (pt_not (pt_val (pe_callB call_isi rfl mi boot_isinstance (pa_cons (pv 4) (pa_cons (pe_bltn (v := .ty "int") rfl mn PyProof.Rows.boot_int rfl) pa_nil)))))
            (pw_or1 (pt_cmpR op_ne (pe_callB call_isi rfl mi boot_isinstance (pa_cons (pv 4) (pa_cons (pe_bltn (v := .ty "bool") rfl mb PyProof.Rows.boot_bool rfl) pa_nil))) (pe_callB call_isi rfl mi boot_isinstance (pa_cons (pv 5) (pa_cons (pe_bltn (v := .ty "bool") rfl mb PyProof.Rows.boot_bool rfl) pa_nil))) (nomark _))))) pss_never
        (pss_one (ps_if (pt_cmpR op_ne (pv 4) (pv 5) (nomark _)) pss_never pss_nil)))))))))))))))
    (pss_one (ps_ret pe_bl)))), ?_⟩
  refine ⟨_, rfl, (by show 1 <= sizeLine; decide), fun g hg => ?_⟩
  have s1 := same_new hg (.lst [V.ref a]); refine ⟨_, rfl, (by show 1 <= sizeLine; decide), fun d hd => ?_⟩
  have hgd : g ≠ d := ne_of_none upd_same hd; have hd0 : H d = none := s1.free hd
  refine while_m (fun m σ H2 => ∃ (o4 o5 : Option V) (us vs : List V), σ = [some (.ref a), some (.ref b), some (.ref g), some (.ref d), o4, o5] /\ Same H H2 /\ St2 H m us vs /\ m <= 5001 /\ H2 g = some (.lst us) /\ H2 d = some (.lst vs))
    (0 + (n + 1)) ⟨_, _, [.ref a], [.ref b], rfl, s1.trans (same_new hd _), .snoc .nil (.lst ha hb hL), by omega, by rw [upd_ne hgd]; exact upd_same, upd_same⟩ ?_ ?_
  . rintro m σ H2 p_
    refine hld fun g_ k_ => ?_; obtain ⟨o4, o5, us, vs, rfl, s2, S, hm, eg, ed⟩ := p_; refine k_ ?_; refine ⟨_, rfl, (by show 0 <= sizeLine; decide), fun z hz => ?_⟩
    have s3 := s2.trans (same_new hz (.lst [])); have eg3 := same_new hz (.lst []) _ _ eg; have ed3 := same_new hz (.lst []) _ _ ed; refine ⟨d, z, _, rfl, rfl, SqL.of ed3, SqL.of upd_same, ?_⟩; generalize upd H2 z (.lst []) = H3 at s3 eg3 ed3
    cases S with
    | nil => exact ⟨false, rfl, iteF (q H3 s3)⟩
    | @snoc n1 m1 us vs u v S e =>
      have hlen := S.len; have hpop : ∀ (zs : List V) (y : V), (zs ++ [y])[(zs ++ [y]).length - 1]? = some y := fun zs y => by simp
      refine ⟨true, by simp, iteT ⟨_, rfl, .inl ⟨rfl, _, SqL.of eg3⟩, g, _, _, rfl, rfl, eg3, hpop us u, ?_⟩⟩
      rw [List.dropLast_concat]; have ed4 : (upd H3 g (.lst us)) d = some (.lst (vs ++ [v])) := by rw [upd_ne (Ne.symm hgd)]; exact ed3
      refine ⟨_, rfl, .inl ⟨rfl, _, SqL.of ed4⟩, d, _, _, rfl, rfl, ed4, hpop vs v, ?_⟩; rw [List.dropLast_concat]; have s5 : Same H (upd (upd H3 g (.lst us)) d (.lst vs)) := same_upd (same_upd s3 hg _) hd0 _; have eg5 : (upd (upd H3 g (.lst us)) d (.lst vs)) g = some (.lst us) := by rw [upd_ne hgd]; exact upd_same
      have ed5 : (upd (upd H3 g (.lst us)) d (.lst vs)) d = some (.lst vs) := upd_same; generalize upd (upd H3 g (.lst us)) d (.lst vs) = H5 at s5 eg5 ed5
      cases e with
      | non =>
        refine ⟨_, rfl, _, _, _, _, rfl, TyOf.non, (show PySem.W.kitOne K (.type "NoneType") (.type "list") = some false from rfl), _, rfl, iteF ?_⟩
        refine ⟨_, rfl, _, _, _, _, rfl, TyOf.non, (show PySem.W.kitOne K (.type "NoneType") (.type "tuple") = some false from rfl), _, rfl, iteF ?_⟩
        refine ⟨_, rfl, _, _, _, _, rfl, TyOf.non, (show PySem.W.kitOne K (.type "NoneType") (.type "str") = some false from rfl), _, rfl, iteF ?_⟩
        exact ⟨_, rfl, _, rfl, iteT ⟨_, rfl, _, rfl, iteF ⟨n1, by omega, _, _, us, vs, rfl, s5, S, by omega, eg5, ed5⟩⟩⟩
      | int i =>
        refine ⟨_, rfl, _, _, _, _, rfl, TyOf.int _, (show PySem.W.kitOne K (.type "int") (.type "list") = some false from rfl), _, rfl, iteF ?_⟩
        refine ⟨_, rfl, _, _, _, _, rfl, TyOf.int _, (show PySem.W.kitOne K (.type "int") (.type "tuple") = some false from rfl), _, rfl, iteF ?_⟩
        refine ⟨_, rfl, _, _, _, _, rfl, TyOf.int _, (show PySem.W.kitOne K (.type "int") (.type "str") = some false from rfl), _, rfl, iteF ?_⟩
        refine ⟨_, rfl, _, rfl, iteF ?_⟩; refine ⟨_, rfl, _, _, _, _, rfl, TyOf.int _, (show PySem.W.kitOne K (.type "int") (.type "int") = some true from rfl), _, rfl, iteF ?_⟩
        refine ⟨_, rfl, _, _, _, _, rfl, TyOf.int _, (show PySem.W.kitOne K (.type "int") (.type "bool") = some false from rfl), _, rfl, _, _, _, _, rfl, TyOf.int _, (show PySem.W.kitOne K (.type "int") (.type "bool") = some false from rfl), rfl, _, rfl, iteNS rfl ?_⟩
        exact ⟨_, rfl, _, rfl, rfl, _, rfl, iteNS rfl ⟨n1, by omega, _, _, us, vs, rfl, s5, S, by omega, eg5, ed5⟩⟩
      | str x =>
        refine ⟨_, rfl, _, _, _, _, rfl, TyOf.str _, (show PySem.W.kitOne K (.type "str") (.type "list") = some false from rfl), _, rfl, iteF ?_⟩
        refine ⟨_, rfl, _, _, _, _, rfl, TyOf.str _, (show PySem.W.kitOne K (.type "str") (.type "tuple") = some false from rfl), _, rfl, iteF ?_⟩
        refine ⟨_, rfl, _, _, _, _, rfl, TyOf.str _, kitStr K, _, rfl, iteT ?_⟩; refine ⟨_, rfl, _, _, _, _, rfl, TyOf.str _, kitStr K, _, rfl, iteF ?_⟩; exact ⟨_, rfl, _, rfl, rfl, _, rfl, iteNS rfl ⟨n1, by omega, _, _, us, vs, rfl, s5, S, by omega, eg5, ed5⟩⟩
      | @lst k a1 b1 ys e1 e2 hy =>
        have hyl := hy.len; have ha5 := s5 _ _ e1; have hb5 := s5 _ _ e2; have hb1g : b1 ≠ g := ne_of_none e2 hg; refine ⟨_, rfl, _, _, _, _, rfl, TyOf.lst hb5, kitList K, _, rfl, iteT ?_⟩; refine ⟨_, rfl, _, _, _, _, rfl, TyOf.lst ha5, kitList K, _, rfl, iteF ?_⟩; refine ⟨_, rfl, a1, _, rfl, .inl (SqL.of ha5), _, rfl, b1, _, rfl, .inl (SqL.of hb5), rfl, _, rfl, iteNS rfl ?_⟩; refine ⟨_, rfl, .inl ⟨rfl, _, SqL.of eg5⟩, _, rfl, g, a1, _, _, rfl, rfl, eg5, ha5, small (by omega), ?_⟩
        have ed6 : (upd H5 g (.lst (us ++ ys))) d = some (.lst vs) := by rw [upd_ne (Ne.symm hgd)]; exact ed5
        have hb6 : (upd H5 g (.lst (us ++ ys))) b1 = some (.lst ys) := by rw [upd_ne hb1g]; exact hb5
        refine ⟨_, rfl, .inl ⟨rfl, _, SqL.of ed6⟩, _, rfl, d, b1, _, _, rfl, rfl, ed6, hb6, small (by omega), ?_⟩
        exact ⟨n1 + k, by omega, _, _, us ++ ys, vs ++ ys, rfl, same_upd (same_upd s5 hg _) hd0 _, St2.app hy S, by omega, by rw [upd_ne hgd]; exact upd_same, upd_same⟩
      | @tup k a1 b1 ys e1 e2 hy =>
        have hyl := hy.len; have ha5 := s5 _ _ e1; have hb5 := s5 _ _ e2; have hb1g : b1 ≠ g := ne_of_none e2 hg; refine ⟨_, rfl, _, _, _, _, rfl, TyOf.tup hb5, (show PySem.W.kitOne K (.type "tuple") (.type "list") = some false from rfl), _, rfl, iteF ?_⟩
        refine ⟨_, rfl, _, _, _, _, rfl, TyOf.tup hb5, kitTup K, _, rfl, iteT ?_⟩; refine ⟨_, rfl, _, _, _, _, rfl, TyOf.tup ha5, kitTup K, _, rfl, iteF ?_⟩; refine ⟨_, rfl, a1, _, rfl, .inr (SqT.of ha5), _, rfl, b1, _, rfl, .inr (SqT.of hb5), rfl, _, rfl, iteNS rfl ?_⟩; refine ⟨_, rfl, .inl ⟨rfl, _, SqL.of eg5⟩, _, rfl, a1, _, rfl, .inr (SqT.of ha5), fun c1 hc1 => ?_⟩; have s6 := same_new hc1 (.lst ys); have eg6 := s6 _ _ eg5; have ed6 := s6 _ _ ed5; have hb6 := s6 _ _ hb5; have ec6 : (upd H5 c1 (.lst ys)) c1 = some (.lst ys) := upd_same; have s6 := s5.trans s6; generalize upd H5 c1 (.lst ys) = H6 at s6 eg6 ed6 hb6 ec6; refine ⟨g, c1, _, _, rfl, rfl, eg6, ec6, small (by omega), ?_⟩
        have s7 : Same H (upd H6 g (.lst (us ++ ys))) := same_upd s6 hg _; have eg7 : (upd H6 g (.lst (us ++ ys))) g = some (.lst (us ++ ys)) := upd_same; have ed7 : (upd H6 g (.lst (us ++ ys))) d = some (.lst vs) := by rw [upd_ne (Ne.symm hgd)]; exact ed6
        have hb7 : (upd H6 g (.lst (us ++ ys))) b1 = some (.tup ys) := by rw [upd_ne hb1g]; exact hb6
        generalize upd H6 g (.lst (us ++ ys)) = H7 at s7 eg7 ed7 hb7; refine ⟨_, rfl, .inl ⟨rfl, _, SqL.of ed7⟩, _, rfl, b1, _, rfl, .inr (SqT.of hb7), fun c2 hc2 => ?_⟩; have s8 := same_new hc2 (.lst ys); have eg8 := s8 _ _ eg7; have ed8 := s8 _ _ ed7; refine ⟨d, c2, _, _, rfl, rfl, ed8, upd_same, small (by omega), ?_⟩
        exact ⟨n1 + k, by omega, _, _, us ++ ys, vs ++ ys, rfl, same_upd (s7.trans s8) hd0 _, St2.app hy S, by omega, by rw [upd_ne hgd]; exact eg8, upd_same⟩
  . rintro σ H2 Q1 Q2 hQ p_
    refine hld fun g_ k_ => ?_; obtain ⟨v1, h1, h2, h⟩ := p_; refine k_ ?_; refine ⟨v1, h1, h2, fun z hz => ?_⟩; refine hld fun g_ k_ => ?_; obtain ⟨a', b', xs, e1, e2, e3, e4, k, e5, h⟩ := h z hz; refine k_ ?_; exact ⟨a', b', xs, e1, e2, e3, e4, k, e5, hQ _ _ h⟩
end
end K13
namespace K13
open PySem L2 KM KD PyProof.Rows
section
variable {P : Program} {w : World} {K : PySem.W.Frag} {mg : Str -> Option Value} {base : Heap} {f : Addr} {fd : FuncData}
theorem inV_vI (i : Int) (A : AI) : inV (.int i) (A.map vI) = decide (some i ∈ A) := by
  unfold inV
  rw [Bool.eq_iff_iff, List.any_eq_true, decide_eq_true_iff]
  constructor
  . rintro ⟨y, hy, h⟩
    obtain ⟨o, ho, rfl⟩ := List.mem_map.mp hy
    cases o with
    | none => cases h
    | some j =>
      have h : (j == i) = true := h; rw [<- beq_iff_eq.mp h]; exact ho
  . intro h
    exact ⟨_, List.mem_map_of_mem h, by show (i == i) = true; exact beq_self_eq_true i⟩
theorem flat_vIs (A : AI) : (A.map vI).all flatV = true := by
  rw [List.all_eq_true]; intro x hx; obtain ⟨o, _, rfl⟩ := List.mem_map.mp hx
  cases o <;> rfl
theorem any_big (li : LI) (a b : Int) : ((li.map vP).any fun ys => eqL ys [.int a, .int b]) = decide ((a, b) ∈ li) := by
  have one : ∀ p : Int × Int, eqL (vP p) [.int a, .int b] = decide (p = (a, b)) := fun p => by
    have e : eqL (vP p) [.int a, .int b] = ((p.1 == a) && ((p.2 == b) && true)) := rfl; rw [e, Bool.and_true, Bool.eq_iff_iff, Bool.and_eq_true, beq_iff_eq, beq_iff_eq, decide_eq_true_iff]; exact ⟨fun h => Prod.ext h.1 h.2, fun h => by rw [h]; exact ⟨rfl, rfl⟩⟩
  rw [Bool.eq_iff_iff, List.any_eq_true, decide_eq_true_iff]
  constructor
  . rintro ⟨ys, hy, h⟩
    obtain ⟨p, hp, rfl⟩ := List.mem_map.mp hy; rw [one, decide_eq_true_iff] at h; rw [<- h]; exact hp
  . intro h
    exact ⟨_, List.mem_map_of_mem h, by rw [one]; exact decide_eq_true rfl⟩
theorem big_gt : (1000 : Int) < big := by unfold big; decide
theorem tree_nobig {ab : Ab} {r : Nat} {rk : Nat -> Nat} (T : Tree ab r rk) (h : ab.length <= 20) : some big ∉ ab.map toI := fun z => by
  obtain ⟨o, ho, e⟩ := List.mem_map.mp z
  cases o with
  | none => cases e
  | some p =>
    obtain ⟨j, hj⟩ := List.mem_iff_getElem?.mp ho; have h1 := (T.up j p hj).1; have h2 : (p : Int) = big := Option.some.inj e; have := big_gt
    omega
theorem free_nobig {n : Nat} {ls : Ln} (F : IsFree n ls) (h : n <= 20) (a : Int) : (a, big) ∉ toL ls := fun z => by
  obtain ⟨p, hp, e⟩ := List.mem_map.mp z; have h1 := (F.lt hp).2; have h2 : (p.2 : Int) = big := congrArg Prod.snd e; have := big_gt
  omega
theorem scFormFor : FnScope ["_law_deed", "_law_many", "_law_lines"] ["_law_deed"] (defScope sFormFor) := ⟨rfl, rfl, rfl, by decide +kernel, rfl, by decide +kernel, by decide +kernel⟩
theorem ok_formFor {f1 f2 f3 : Addr} {d1 d2 d3 : FuncData} (F : Fun K "_law_form_for" "_law_form_for" sFormFor f fd) (GT : Kit P w K mg base 64 "_law_text_of" ["_law_above", "_law_knot"] (spText 64) f1 d1) (GN : Kit P w K mg base 1 "_law_near_of" ["_law_many", "_law_lines"] spNearOf f2 d2) (GF : Kit P w K mg base 64 "_law_free_text" ["_law_near"] spFreeText f3 d3) :
    FnOk P w K mg base CX0 65 f fd ["_law_deed"] spFormFor := by
  refine F.ok scFormFor (fun vs H Q E h => ?_) (fun cdv A outer s H vs Q E hr h => ?_)
  . obtain ⟨t, b, o, rfl, _⟩ := h
    rfl
  obtain ⟨t, b, o, rfl, hd, q⟩ := h; have hd : ∃ v, H t = some (.tup [.str (told b), v]) /\ ArgAt true H v o b := hd; obtain ⟨v, ht, hA⟩ := hd; have hr1 : Room 1 _ := hr.mono (by decide)
  refine ⟨_, pss_cons (ps_if (pt_cmpR op_eq (pe_ix ix_tup (pv 0) pe_int (fun _ _ => rfl)) pe_str (nomark _))
      (pss_cons (ps_if (pt_cmpR op_in_seq (pe_op op_pow pe_int pe_int) (pe_ix ix_tup (pv 0) pe_int (fun _ _ => rfl)) rfl) (pss_one (ps_ret pe_non)) pss_nil)
      (pss_one (ps_ret (pe_call GT.ok hr rfl GT.mg GT.kp GT.bd .nil pass0 (pa_cons (pe_ix ix_tup (pv 0) pe_int (fun _ _ => rfl)) (pa_cons pe_int pa_nil)))))) pss_nil)
    (pss_cons (ps_asg (pe_ix ix_tup (pv 0) pe_int (fun _ _ => rfl)) (pg_tup rfl (pgs_cons (pg_name (i := 1) scFormFor.nd rfl (Or.inl rfl)) (pgs_cons (pg_name (i := 2) scFormFor.nd rfl (Or.inl rfl)) pgs_nil))))
    (pss_cons (ps_if (pt_cmpR (op_inT hr.units1) (pe_tup (pa_cons pe_int (pa_cons (pe_op op_pow pe_int pe_int) pa_nil))) (pv 2) rfl) (pss_one (ps_ret pe_non)) pss_nil)
    (pss_one (ps_ret (pe_call GF.ok hr rfl GF.mg GF.kp GF.bd .nil pass0 (pa_cons (pe_call GN.ok hr1 rfl GN.mg GN.kp GN.bd .nil pass0 (pa_cons (pv 1) (pa_cons (pv 2) pa_nil))) pa_nil)))))), ?_⟩
  cases b with
  | true =>
    have ht : H t = some (.tup [.str "rooted", v]) := ht; refine hld fun g_ k_ => ?_; obtain ⟨a, A, rfl, ha, hO⟩ := hA; refine k_ ?_; refine ⟨_, rfl, t, _, _, _, rfl, rfl, SqT.of ht, rfl, rfl, _, rfl, strEq rfl ?_⟩; refine ⟨_, _, rfl, rfl, ⟨by decide, by decide, by decide⟩, _, rfl, t, _, _, _, rfl, rfl, SqT.of ht, rfl, a, _, rfl, .inl (SqL.of ha), rfl, flat_vIs A, decide (some big ∈ A), congrArg V.bl (inV_vI big A), ?_⟩
    cases o with
    | none =>
      rw [decide_eq_true hO.2.2]; exact iteT (q H (Same.refl _))
    | some x =>
      refine hld fun g_ k_ => ?_; obtain ⟨ab, r, rk, rfl, T, hU, hl, rfl⟩ := hO; refine k_ ?_; obtain ⟨U, rfl⟩ := hU rfl; rw [decide_eq_false (tree_nobig T hl)]; rw [map_vI] at ha; have hpos := U.pos; exact iteF ⟨_, rfl, t, _, _, _, rfl, rfl, SqT.of ht, rfl, a, ab, 0, 0, rk, rfl, ha, T, hpos, by omega, by omega, q⟩
  | false =>
    have ht : H t = some (.tup [.str "free", v]) := ht; refine hld fun g_ k_ => ?_; obtain ⟨u, L, ps, c, li, rfl, G, hO⟩ := hA; refine k_ ?_; refine ⟨_, rfl, t, _, _, _, rfl, rfl, SqT.of ht, rfl, rfl, _, rfl, strNe (by decide +kernel) ?_⟩
    refine ⟨_, rfl, t, _, _, _, rfl, rfl, SqT.of ht, rfl, u, _, rfl, SqT.of G.tup, rfl, _, _, rfl, _, _, rfl, rfl, ?_⟩; refine ⟨_, _, rfl, rfl, ⟨by decide, by decide, by decide⟩, (by show 2 <= sizeLine; decide), fun p hp => ?_⟩
    have s1 := same_new hp (.tup [V.int 0, V.int ((10 : Int) ^ (20 : Int).toNat)]); have e1 : (upd H p (.tup [V.int 0, V.int ((10 : Int) ^ (20 : Int).toNat)])) p = some (.tup [V.int 0, V.int big]) := upd_same; generalize upd H p (.tup [V.int 0, V.int ((10 : Int) ^ (20 : Int).toNat)]) = H1 at s1 e1; have G1 := G.up s1; refine ⟨_, rfl, p, L, _, ps, _, rfl, rfl, e1, G1.ls, rfl, decide (((0 : Int), big) ∈ li), congrArg V.bl (any_big li 0 big), ?_⟩
    cases o with
    | none =>
      rw [decide_eq_true hO.2.2]; exact iteT (q H1 s1)
    | some x =>
      refine hld fun g_ k_ => ?_; obtain ⟨n, ls, rfl, rfl, F, h0, hl, rfl⟩ := hO; refine k_ ?_; rw [decide_eq_false (free_nobig F hl 0)]; have hll := (freeL_of F).2; rw [toL_len] at hll; refine iteF ⟨_, rfl, _, rfl, L, ps, n, ls, rfl, G1.ls, fun p hp => F.lt hp, by omega, by omega, fun b bs H2 s2 B => ?_⟩
      exact ⟨b, bs, n, ls, rfl, B, F, h0, by omega, fun H3 s3 => q H3 (s1.trans (s2.trans s3))⟩
end
end K13
namespace K13
open PySem L2 KM KD PyProof.Rows
section
variable {P : Program} {w : World} {K : PySem.W.Frag} {mg : Str -> Option Value} {base : Heap} {f : Addr} {fd : FuncData}
theorem eqL_pair (x y : Kd) : eqL (pairB y) (pairB x) = decide (y = x) := by
  have e : eqL (pairB y) (pairB x) = ((told y.1 == told x.1) && ((mkS y.2 == mkS x.2) && true)) := rfl; rw [e, Bool.and_true, Bool.eq_iff_iff, Bool.and_eq_true, beq_iff_eq, beq_iff_eq, decide_eq_true_iff]; exact ⟨fun h => Prod.ext (told_inj h.1) (KM.mkS_inj h.2), fun h => by rw [h]; exact ⟨rfl, rfl⟩⟩
theorem any_kind (ks : List Kd) (x : Kd) : ((ks.map pairB).any fun ys => eqL ys (pairB x)) = decide (x ∈ ks) := by
  rw [Bool.eq_iff_iff, List.any_eq_true, decide_eq_true_iff]
  constructor
  . rintro ⟨ys, hy, h⟩
    obtain ⟨y, hm, rfl⟩ := List.mem_map.mp hy; rw [eqL_pair, decide_eq_true_iff] at h; rw [<- h]; exact hm
  . intro h
    exact ⟨_, List.mem_map_of_mem h, by rw [eqL_pair]; exact decide_eq_true rfl⟩
theorem scDueOf : FnScope ["_law_kinds", "_law_times", "_law_deed", "_law_text", "_law_kind"] ["_law_kinds", "_law_times", "_law_deed"] (defScope sDueOf) := ⟨rfl, rfl, rfl, by decide +kernel, rfl, by decide +kernel, by decide +kernel⟩
theorem ok_dueOf {f1 : Addr} {d1 : FuncData} (F : Fun K "_law_due_of" "_law_due_of" sDueOf f fd) (GF : Kit P w K mg base 65 "_law_form_for" ["_law_deed"] spFormFor f1 d1) (ml : mg "len" = none) : FnOk P w K mg base CX0 66 f fd ["_law_kinds", "_law_times", "_law_deed"] spDueOf := by
  refine F.ok scDueOf (fun vs H Q E h => ?_) (fun cdv A outer s H vs Q E hr h => ?_)
  . obtain ⟨kl, tl, t, rs, st, d, rfl, _⟩ := h
    rfl
  obtain ⟨kl, tl, t, rs, st, d, rfl, G, htl, hne, hlen, hn, hd, q⟩ := h
  refine ⟨_, pss_cons (ps_if (pt_cmpR op_eq (pe_ix ix_tup (pv 2) pe_int (fun _ _ => rfl)) pe_str (nomark _))
      (pss_cons (ps_if (PW.pt (pw_or (pt_cmpR op_lt (pe_ix ix_tup (pv 2) pe_int (fun _ _ => rfl)) pe_int (nomark _)) (pw_or1 (pt_cmpR op_ge (pe_ix ix_tup (pv 2) pe_int (fun _ _ => rfl)) (pe_callB call_len_seq rfl ml PySem.boot_len (pa_cons (pv 0) pa_nil)) (nomark _))))) (pss_one (ps_ret pe_str)) pss_nil)
      (pss_one (ps_ret (pe_ix ix_tup (pe_ix ix_list (pv 0) (pe_ix ix_tup (pv 2) pe_int (fun _ _ => rfl)) (fun _ _ => rfl)) pe_int (fun _ _ => rfl))))) pss_nil)
    (pss_cons (ps_set (i := 3) scDueOf.nd rfl (Or.inl rfl) (pe_call GF.ok hr rfl GF.mg GF.kp GF.bd .nil pass0 (pa_cons (pv 2) pa_nil)))
    (pss_cons (ps_if (pt_cmp (pc_isN (pv 3))) (pss_one (ps_ret pe_str)) pss_nil)
    (pss_cons (ps_if (pt_cmpR (op_notinT hr.units1) (pe_tup (pa_cons (pe_ix ix_tup (pv 2) pe_int (fun _ _ => rfl)) (pa_cons (pv 3) pa_nil))) (pv 0) rfl)
      (pss_cons (ps_expr (pe_bm PySem.F.plainAttrs_list PySem.F.slot_list_append PySem.F.type_list_append mt_append (pv 0) (pa_cons (pe_tup (pa_cons (pe_ix ix_tup (pv 2) pe_int (fun _ _ => rfl)) (pa_cons (pv 3) pa_nil))) pa_nil)))
      (pss_one (ps_expr (pe_bm PySem.F.plainAttrs_list PySem.F.slot_list_append PySem.F.type_list_append mt_append (pv 1) (pa_cons pe_int pa_nil))))) pss_nil)
    (pss_cons (ps_set (i := 4) scDueOf.nd rfl (Or.inl rfl) (pe_bm PySem.F.plainAttrs_list PySem.F.slot_list_index PySem.F.type_list_index (mt_indexT (by have := hr.un; show (A.deeper (envOfC "_law_due_of" (defScope sDueOf) s.heap.objs.size f cdv)).units + 2 < cLine; omega)) (pv 0) (pa_cons (pe_tup (pa_cons (pe_ix ix_tup (pv 2) pe_int (fun _ _ => rfl)) (pa_cons (pv 3) pa_nil))) pa_nil)))
    (pss_cons (ps_asg (pe_op op_add (pe_ix ix_list (pv 1) (pv 4) (fun _ _ => rfl)) pe_int) (pg_sub (pv 1) (pv 4) set_list))
    (pss_one (ps_ret (pe_tup (pa_cons (pv 4) (pa_cons (pe_ix ix_list (pv 1) (pv 4) (fun _ _ => rfl)) pa_nil)))))))))), ?_⟩
  have hrl : (rs.map V.ref).length = st.1.length := by rw [List.length_map, G.len, List.length_map]
  match d, hd, q with
  | .fo i, hd, q =>
    have ht : H t = some (.tup [.str "form", .int i]) := hd; have hq : ∀ v, AnsAt H v (if i < 0 \/ (st.1.length : Int) <= i then .nk else .tx (st.1.getD i.toNat (true, [])).2) -> Q v H := fun v hv => q v rs H (Same.x (Same.refl _) _) G htl hv
    refine ⟨_, rfl, t, _, _, _, rfl, rfl, SqT.of ht, rfl, rfl, _, rfl, strEq rfl ?_⟩; refine ⟨_, rfl, t, _, _, _, rfl, rfl, SqT.of ht, rfl, _, _, rfl, rfl, _, rfl, ?_⟩
    by_cases h0 : i < 0
    . rw [decide_eq_true h0]
      exact iteT (iteT (hq _ (by rw [if_pos (.inl h0)]; rfl)))
    rw [decide_eq_false h0]; refine iteF ⟨_, rfl, t, _, _, _, rfl, rfl, SqT.of ht, rfl, _, rfl, kl, _, rfl, .inl (SqL.of G.top), _, _, rfl, rfl, _, rfl, ?_⟩; rw [hrl]
    by_cases h1 : (st.1.length : Int) <= i
    . rw [decide_eq_true h1]
      exact iteT (hq _ (by rw [if_pos (.inr h1)]; rfl))
    rw [decide_eq_false h1]; rw [if_neg (by omega)] at hq
    obtain ⟨k, rfl⟩ := Int.eq_ofNat_of_zero_le (show 0 <= i by omega)
    have hk : k < st.1.length := by omega
    have hx : st.1[k]? = some (st.1.getD k (true, [])) := by rw [List.getD_eq_getElem?_getD, List.getElem?_eq_getElem hk]; rfl
    have hkr : k < rs.length := by rw [G.len, List.length_map]; exact hk
    have hc := G.each k _ _ (List.getElem?_eq_getElem hkr) (by rw [List.getElem?_map, hx]; rfl)
    exact iteF ⟨_, rfl, _, rfl, t, _, _, _, rfl, rfl, SqT.of ht, rfl, kl, _, _, _, rfl, rfl, SqL.of G.top, at_map (f := V.ref) (List.getElem?_eq_getElem hkr), _, _, _, _, rfl, rfl, SqT.of hc, rfl, hq _ rfl⟩
  | .tr b o, ⟨v, ht, hA⟩, q =>
    refine ⟨_, rfl, t, _, _, _, rfl, rfl, SqT.of ht, rfl, rfl, _, rfl, strNe (by cases b <;> decide +kernel) ?_⟩
    refine ⟨_, rfl, t, b, o, rfl, ⟨v, ht, hA⟩, fun H1 s1 => ?_⟩; have G1 := G.up s1; have htl1 := s1 _ _ htl; have ht1 := s1 _ _ ht
    cases o with
    | none => exact ⟨_, rfl, _, rfl, iteT (q _ rs H1 (Same.x s1 _) G1 htl1 rfl)⟩
    | some x =>
    change gName 3 (vT x) _ _ _; refine ⟨_, rfl, _, rfl, iteF ?_⟩; obtain ⟨y, hy⟩ : ∃ y : Kd, y = (b, x) := ⟨_, rfl⟩; have ey : ∀ (H' : Hp) (p : Addr), (upd H' p (.tup [V.str (told b), vT x])) p = some (.tup (pairB y)) := fun H' p => by rw [hy]; exact upd_same
    refine ⟨_, rfl, t, _, _, _, rfl, rfl, SqT.of ht1, rfl, _, rfl, (by show 2 <= sizeLine; decide), fun p1 hp1 => ?_⟩
    have s2 := same_new hp1 (.tup [V.str (told b), vT x]); have e2 := ey H1 p1; generalize upd H1 p1 (.tup [V.str (told b), vT x]) = H2 at s2 e2; have G2 := G1.up s2; have htl2 := s2 _ _ htl1; have ht2 := s2 _ _ ht1; have s12 := s1.trans s2; refine ⟨_, rfl, p1, kl, _, rs, _, rfl, rfl, e2, G2, rfl, !decide (y ∈ st.1), congrArg (fun c => V.bl (!c)) (any_kind st.1 y), ?_⟩; refine (?cases : (∀ (rs8 : List Addr) (H8 : Hp), SameX [kl, tl] H H8 -> TupsAt H8 kl rs8 ((bkK st.1 y).map pairB) -> H8 tl = some (.lst ((bkA st.1 st.2 y).map vN)) -> H8 t = some (.tup [.str (told b), v]) -> (?R : Hp -> Prop) H8) -> _) ?tail
    case cases =>
      intro tail; refine (Classical.em (y ∈ st.1)).symm.elim (fun hx => ?_) (fun hx => ?_)
      . rw [decide_eq_false hx]
        refine iteT ⟨_, rfl, .inl ⟨rfl, _, SqL.of G2.top⟩, _, rfl, t, _, _, _, rfl, rfl, SqT.of ht2, rfl, _, rfl, (by show 2 <= sizeLine; decide), fun p2 hp2 => ?_⟩
        have s3 := same_new hp2 (.tup [V.str (told b), vT x]); have e3 := ey H2 p2; generalize upd H2 p2 (.tup [V.str (told b), vT x]) = H3 at s3 e3; have G3 := G2.up s3; refine ⟨kl, _, _, rfl, rfl, G3.top, smallt (by rw [hrl]; omega), ?_⟩
        have G4 := tups_snoc G3 e3 (show (pairB y).all flatV = true from rfl)
        have htl4 : (upd H3 kl (.lst (rs.map V.ref ++ [V.ref p2]))) tl = some (.lst (st.2.map vN)) := by rw [upd_ne (Ne.symm hne)]; exact s3 _ _ htl2
        have ht4 : (upd H3 kl (.lst (rs.map V.ref ++ [V.ref p2]))) t = some (.tup [.str (told b), v]) := by rw [upd_ne (ne_of (s3 _ _ ht2) G3.top (fun z => nomatch z))]; exact s3 _ _ ht2
        have sx4 : SameX [kl, tl] H (upd H3 kl (.lst (rs.map V.ref ++ [V.ref p2]))) := (Same.x (s12.trans s3) _).put (by simp) _
        generalize upd H3 kl (.lst (rs.map V.ref ++ [V.ref p2])) = H4 at G4 htl4 ht4 sx4; have hlt : (st.2.map vN).length = st.1.length := by rw [List.length_map]; exact hlen
        refine ⟨_, rfl, .inl ⟨rfl, _, SqL.of htl4⟩, tl, _, _, rfl, rfl, htl4, smallt (by rw [hlt]; omega), ?_⟩
        refine tail (rs ++ [p2]) _ (SameX.put (p := tl) sx4 (by simp) _) ?_ ?_ ?_
        . unfold bkK
          rw [if_neg hx, List.map_append]; exact tups_upX G4 (D := [tl]) (SameX.put (p := tl) (Same.x (Same.refl _) _) (by simp) _) (by simpa using hne) fun c ys hc => by rw [List.mem_singleton]; exact ne_of hc htl4 (fun z => nomatch z)
        . unfold bkA
          rw [if_neg hx, upd_same, List.map_append]
          rfl
        . rw [upd_ne (ne_of ht4 htl4 (fun z => nomatch z))]
          exact ht4
      . rw [decide_eq_true hx]
        have G8 : TupsAt H2 kl rs ((bkK st.1 y).map pairB) := by unfold bkK; rw [if_pos hx]; exact G2
        have t8 : H2 tl = some (.lst ((bkA st.1 st.2 y).map vN)) := by unfold bkA; rw [if_pos hx]; exact htl2
        exact iteF (tail rs H2 (Same.x s12 _) G8 t8 ht2)
    case tail =>
      intro rs8 H8 sx8 G8 htl8 ht8; refine ⟨_, rfl, .inl ⟨rfl, _, SqL.of G8.top⟩, _, rfl, t, _, _, _, rfl, rfl, SqT.of ht8, rfl, _, rfl, (by show 2 <= sizeLine; decide), fun p3 hp3 => ?_⟩
      have s9 := same_new hp3 (.tup [V.str (told b), vT x]); have e9 := ey H8 p3; generalize upd H8 p3 (.tup [V.str (told b), vT x]) = H9 at s9 e9; have G9 := G8.up s9; have htl9 := s9 _ _ htl8; refine ⟨kl, p3, _, rs8, _, st.1.idxOf y, rfl, rfl, e9, G9, rfl, by rw [List.length_map]; exact bk_idx y, fun ys hys => ?_, fun m ys hm hys => ?_, ?_⟩
      . rw [List.getElem?_map, bkK_at] at hys
        cases hys
        rw [eqL_pair]; exact decide_eq_true rfl
      . rw [List.getElem?_map] at hys
        cases hz : (bkK st.1 y)[m]? with
        | none => rw [hz] at hys; cases hys
        | some z =>
          rw [hz] at hys
          cases hys
          rw [eqL_pair]; exact decide_eq_false (bkK_before y hm hz)
      have hat := at_map (f := vN) (bkA_at hlen y); refine ⟨_, rfl, _, rfl, tl, _, _, _, rfl, rfl, SqL.of htl9, hat, _, _, rfl, rfl, ?_⟩; have hil : st.1.idxOf y < ((bkA st.1 st.2 y).map vN).length := by rw [List.length_map, bkA_len hlen]; exact bk_idx y
      refine ⟨_, rfl, _, rfl, tl, _, _, _, rfl, rfl, htl9, ixN_nat hil, ?_⟩
      have hset : ((bkA st.1 st.2 y).map vN).set (st.1.idxOf y) (.int ((((bkA st.1 st.2 y).getD (st.1.idxOf y) 0 : Nat) : Int) + 1)) = (bkT st.1 st.2 y).map vN := by
        unfold bkT bkN
        rw [List.map_set]
        rfl
      rw [hset]; have sx10 : SameX [kl, tl] H (upd H9 tl (.lst ((bkT st.1 st.2 y).map vN))) := (sx8.trans (Same.x s9 _)).put (by simp) _
      have G10 : TupsAt (upd H9 tl (.lst ((bkT st.1 st.2 y).map vN))) kl rs8 ((bkK st.1 y).map pairB) := tups_upX G9 (D := [tl]) (SameX.put (p := tl) (Same.x (Same.refl _) _) (by simp) _) (by simpa using hne) fun c ys hc => by rw [List.mem_singleton]; exact ne_of hc htl9 (fun z => nomatch z)
      have t10 : (upd H9 tl (.lst ((bkT st.1 st.2 y).map vN))) tl = some (.lst ((bkT st.1 st.2 y).map vN)) := upd_same; generalize upd H9 tl (.lst ((bkT st.1 st.2 y).map vN)) = H10 at sx10 G10 t10; refine ⟨_, rfl, _, rfl, _, rfl, tl, _, _, _, rfl, rfl, SqL.of t10, at_map (bkT_at hlen y), (by show 2 <= sizeLine; decide), fun p4 hp4 => ?_⟩
      have s11 := same_new hp4 (.tup [vN (st.1.idxOf y), vN (bkN st.1 st.2 y)]); subst hy; exact q _ rs8 _ (sx10.trans (Same.x s11 _)) (G10.up s11) (s11 _ _ t10) ⟨p4, rfl, upd_same⟩
end
end K13
namespace K13
open PySem L2 KM KD PyProof.Rows
section
variable {P : Program} {w : World} {K : PySem.W.Frag} {mg : Str -> Option Value} {base : Heap} {f : Addr} {fd : FuncData}
theorem sx_new {D : List Addr} {H H2 : Hp} (s : SameX D H H2) {g : Addr} (hg : H g = none) (o : HO) : SameX D H (upd H2 g o) := fun a u n h => by rw [upd_ne (ne_of_none h hg)]; exact s a u n h
theorem bk_out {C : Addr} {H : Hp} {b dn lf lc g : Addr} {st : Sb} (G : BookAt C H b dn lf lc st) (hg : H g = none) : g ∉ [dn, lf, lc] := fun z => by
  rcases List.mem_cons.mp z with rfl | z
  . rw [G.nu] at hg; cases hg
  . rcases List.mem_cons.mp z with rfl | z
    . rw [G.fo] at hg; cases hg
    . rw [List.mem_singleton.mp z, G.co] at hg; cases hg
theorem bk_put {C : Addr} {H : Hp} {b dn lf lc g : Addr} {st : Sb} (G : BookAt C H b dn lf lc st) (hg : g ∉ [dn, lf, lc]) {xs : List V} (e : H g = some (.lst xs)) (o : HO) : BookAt C (upd H g o) b dn lf lc st := by
  obtain ⟨dx, hob⟩ := G.ob; have n1 : b ≠ g := ne_of hob e (fun z => nomatch z); exact G.upX (D := [g]) (SameX.put (p := g) (Same.x (Same.refl _) _) (by simp) _) (by simpa using n1) (by simpa using fun z => hg (by rw [<- z]; simp)) (by simpa using fun z => hg (by rw [<- z]; simp)) (by simpa using fun z => hg (by rw [<- z]; simp))
theorem kit_self2 (K : PySem.W.Frag) (t : Value) : PySem.W.kitOne K t t = some true := by
  unfold PySem.W.kitOne
  rw [if_pos (beq_iff_eq.mpr rfl)]
theorem ix_listS {X : Cx} {a : Addr} : IxR (X.suite a) (rIxL X.K) := ix_list
theorem scToldBy : FnScope ["_law_book", "_law_deed", "_law_word", "_law_given", "e"] ["_law_book", "_law_deed"] (defScope sToldBy) := ⟨rfl, rfl, rfl, by decide +kernel, rfl, by decide +kernel, by decide +kernel⟩
theorem ok_toldBy {C CN CK CF CT f1 f2 f3 : Addr} {d1 d2 d3 : FuncData} (F : Fun K "_law_told_by" "_law_told_by" sToldBy f fd) (cl : BookC K C) (GR : KitM P w K mg base (CXe P w) 4 C "rooted" ["self", "above"] (spTreeM C CN true) f1 d1) (GF : KitM P w K mg base (CXe P w) 5 C "free" ["self", "tree"] (spTreeM C CN false) f2 d2)
    (GK : KitM P w K mg base (CXe P w) 1 C "form" ["self", "kind"] (spFormM C CK) f3 d3) (mN : mg "NoTree" = some (.ref CN)) (mK : mg "NoKind" = some (.ref CK)) (mF : mg "NoForm" = some (.ref CF)) (mT : mg "TreeError" = some (.ref CT)) (xn : XC K CN) (xk : XC K CK)
    (y4 : PySem.W.exmOne K (.ref CN) (.ref CT) = some true) (y5 : PySem.W.exmOne K (.ref CK) (.ref CT) = some true) (y6 : PySem.W.kitOne K (.ref CN) (.ref CK) = some false) (y7 : PySem.W.kitOne K (.ref CK) (.ref CN) = some false) (y8 : PySem.W.kitOne K (.ref CN) (.ref CF) = some false) (y9 : PySem.W.kitOne K (.ref CK) (.ref CF) = some false)
    (y10 : PySem.W.kitOne K (.ref CN) (.type "ValueError") = some true) (y11 : PySem.W.kitOne K (.ref CK) (.type "ValueError") = some true) (mi : mg "isinstance" = none) (mv : mg "ValueError" = none) (mli : mg "list" = none) (mn : mg "int" = none) :
    FnOk P w K mg base CX0 6 f fd ["_law_book", "_law_deed"] (spToldBy C) := by
  refine F.ok scToldBy (fun vs H Q E h => ?_) (fun cdv A outer s H vs Q E hr h => ?_)
  . obtain ⟨b, dn, lf, lc, t, st, d, rfl, _⟩ := h
    rfl
  obtain ⟨b, dn, lf, lc, t, st, d, rfl, G, hn, hd, q⟩ := h; have hr4 : Room 4 _ := hr.mono (by decide)
  have hr1 : Room 1 _ := hr.mono (by decide)
  refine ⟨_, pss_cons (ps_set (i := 2) scToldBy.nd rfl (Or.inl rfl) pe_str)
    (pss_cons (ps_try (psx_one (psx_if (pt_cmpR op_eq (pe_ix ix_tup (pv 1) pe_int (fun _ _ => rfl)) pe_str (nomark _))
        (psx_cons (psx_calm (ps_set (i := 3) scToldBy.nd rfl (Or.inl rfl) (pe_callTy call_list_of rfl mli PyProof.Rows.boot_list (pa_cons (pe_ix ix_tup (pv 1) pe_int (fun _ _ => rfl)) pa_nil))))
        (psx_cons (psx_set (i := 2) scToldBy.nd rfl (Or.inl rfl) (pex_meth (pv 0) cl.cls GR.mt GR.ok hr4 GR.bd .nil (pa_cons (pv 3) pa_nil)))
        (psx_one (psx_calm (ps_expr (pe_bm PySem.F.plainAttrs_list PySem.F.slot_list_append PySem.F.type_list_append mt_append (pv 3) (pa_cons pe_int pa_nil)))))))
        (psx_one (psx_if (pt_cmpR op_eq (pe_ix ix_tup (pv 1) pe_int (fun _ _ => rfl)) pe_str (nomark _))
          (psx_cons (psx_calm (ps_set (i := 3) scToldBy.nd rfl (Or.inl rfl) (pe_tup (pa_cons (pe_ix ix_tup (pe_ix ix_tup (pv 1) pe_int (fun _ _ => rfl)) pe_int (fun _ _ => rfl))
            (pa_cons (pe_callTy call_list_of rfl mli PyProof.Rows.boot_list (pa_cons (pe_ix ix_tup (pe_ix ix_tup (pv 1) pe_int (fun _ _ => rfl)) pe_int (fun _ _ => rfl)) pa_nil)) pa_nil)))))
          (psx_cons (psx_set (i := 2) scToldBy.nd rfl (Or.inl rfl) (pex_meth (pv 0) cl.cls GF.mt GF.ok hr GF.bd .nil (pa_cons (pv 3) pa_nil)))
          (psx_one (psx_calm (ps_expr (pe_bm0 PySem.F.plainAttrs_list PySem.F.slot_list_clear PySem.F.type_list_clear mt_clear (pe_ix ix_tup (pv 3) pe_int (fun _ _ => rfl))))))))
          (psx_one (psx_set (i := 2) scToldBy.nd rfl (Or.inl rfl) (pex_meth (pv 0) cl.cls GK.mt GK.ok hr1 GK.bd .nil (pa_cons (pe_ix ix_tup (pv 1) pe_int (fun _ _ => rfl)) pa_nil))))))))
      (ph_as (i := 4) ⟨rfl, .inl mT⟩ scToldBy.nd rfl rfl (fun _ => pss_cons (ps_set (i := 2) scToldBy.nd rfl (Or.inl rfl) pe_str)
        (pss_cons (ps_if (pt_val (pe_callB call_isiS rfl mi boot_isinstance (pa_cons (pv 4) (pa_cons (pe_glob (v := .ref CN) rfl mN rfl) pa_nil)))) (pss_one (ps_set (i := 2) scToldBy.nd rfl (Or.inl rfl) pe_str)) pss_nil)
        (pss_cons (ps_if (pt_val (pe_callB call_isiS rfl mi boot_isinstance (pa_cons (pv 4) (pa_cons (pe_glob (v := .ref CK) rfl mK rfl) pa_nil))))
          (pss_one (ps_set (i := 2) scToldBy.nd rfl (Or.inl rfl) (pe_ix ix_listS (pe_lst (pa_cons pe_str (pa_cons pe_str pa_nil))) (pe_callTy call_int1 rfl mn PyProof.Rows.boot_int (pa_cons (pe_cmpR op_eq (pv 2) pe_str (nomark _)) pa_nil)) (fun _ _ => rfl)))) pss_nil)
        (pss_cons (ps_if (PW.pt (pw_or (pt_val (pe_callB call_isiS rfl mi boot_isinstance (pa_cons (pv 4) (pa_cons (pe_glob (v := .ref CF) rfl mF rfl) pa_nil)))) (pw_or1 (pt_not (pt_val (pe_callB call_isiS rfl mi boot_isinstance (pa_cons (pv 4) (pa_cons (pe_bltn (v := .ty "ValueError") rfl mv PyProof.Rows.Boot.«ValueError» rfl) pa_nil)))))))) pss_never pss_nil)
        (pss_one (ps_set (i := 2) scToldBy.nd rfl (Or.inl rfl) (pe_tup (pa_cons pe_str (pa_cons (pv 2) pa_nil))))))))) ph_never) pss_nil)
    (pss_one (ps_ret (pv 2)))), ?_⟩
  obtain ⟨dx, hob⟩ := G.ob
  match d, hd, q with
  | .fo i, hd, q =>
    have ht : H t = some (.tup [.str "form", .int i]) := hd; refine ⟨_, rfl, t, _, _, _, rfl, rfl, SqT.of ht, rfl, rfl, _, rfl, strNe (by decide +kernel) ?_⟩
    refine ⟨_, rfl, t, _, _, _, rfl, rfl, SqT.of ht, rfl, rfl, _, rfl, strNe (by decide +kernel) ?_⟩
    refine ⟨_, rfl, b, dx, _, rfl, hob, lk0 (by decide +kernel) (by decide +kernel) (by decide +kernel), _, rfl, t, _, _, _, rfl, rfl, SqT.of ht, rfl, b, dn, lf, lc, st, i, rfl, G, hn, fun hi H' s' => ?_, fun hi H' s' => ?_⟩
    . refine ⟨_, rfl, q _ H' (Same.x s' _) (G.up s') ?_⟩
      show TldAt H' _ (if i < 0 \/ (st.1.length : Int) <= i then .nk else .tx (st.1.getD i.toNat (true, [])).2)
      rw [if_neg hi]
      rfl
    . refine ⟨true, y5, iteT ⟨CK, rfl, fun x hx => ?_⟩⟩
      have s1 := s'.trans (same_new hx (errO x CK)); have ex : (upd H' x (errO x CK)) x = some (errO x CK) := upd_same; generalize upd H' x (errO x CK) = H1 at s1 ex; refine ⟨_, rfl, x, CK, _, false, rfl, ex, xk, ⟨_, rfl, iteF ?_⟩, .inr (.inl ⟨CN, rfl, y7⟩)⟩; refine ⟨_, rfl, x, CK, _, true, rfl, ex, xk, ⟨_, rfl, iteT ?_⟩, .inr (.inl ⟨CK, rfl, kit_self2 K _⟩)⟩; refine ⟨(by show 2 <= sizeLine; decide), fun g hg => ⟨_, rfl, rfl, .inr ⟨true, congrArg (fun c => [V.bl c]) (decide_eq_true rfl), ?_⟩⟩⟩
      have s2 := s1.trans (same_new hg (.lst [V.str (Str.ofString "other"), V.str (Str.ofString "no kind")])); have ex2 := same_new hg (.lst [V.str (Str.ofString "other"), V.str (Str.ofString "no kind")]) _ _ ex; have eg : (upd H1 g (.lst [V.str (Str.ofString "other"), V.str (Str.ofString "no kind")])) g = some (.lst [V.str (Str.ofString "other"), V.str (Str.ofString "no kind")]) := upd_same; generalize upd H1 g (.lst [V.str (Str.ofString "other"), V.str (Str.ofString "no kind")]) = H2 at s2 ex2 eg; refine ⟨g, _, _, _, rfl, rfl, SqL.of eg, rfl, ?_⟩; refine ⟨_, rfl, x, CK, _, false, rfl, ex2, xk, ⟨_, rfl, iteF ?_⟩, .inr (.inl ⟨CF, rfl, y9⟩)⟩; refine ⟨_, rfl, x, CK, _, true, rfl, ex2, xk, ⟨_, rfl, iteF ?_⟩, .inl ⟨_, rfl, y11⟩⟩; refine ⟨_, rfl, (by show 2 <= sizeLine; decide), fun p hp => ?_⟩
      have s3 := s2.trans (same_new hp (.tup [V.str (Str.ofString "refused"), V.str (Str.ofString "no kind")])); refine ⟨_, rfl, q _ _ (Same.x s3 _) (G.up s3) ?_⟩
      show TldAt _ _ (if i < 0 \/ (st.1.length : Int) <= i then .nk else .tx (st.1.getD i.toNat (true, [])).2)
      rw [if_pos hi]; exact ⟨p, rfl, upd_same⟩
  | .tr true o, ⟨v, ht, hA⟩, q =>
    have ht : H t = some (.tup [.str "rooted", v]) := ht; refine hld fun g_ k_ => ?_; obtain ⟨a, Aa, rfl, ha, hO⟩ := hA; refine k_ ?_; refine ⟨_, rfl, t, _, _, _, rfl, rfl, SqT.of ht, rfl, rfl, _, rfl, strEq rfl ?_⟩; refine ⟨_, rfl, t, _, _, _, rfl, rfl, SqT.of ht, rfl, a, _, rfl, .inl (SqL.of ha), fun g hg => ?_⟩; have s1 := same_new hg (.lst (Aa.map vI)); have eg : (upd H g (.lst (Aa.map vI))) g = some (.lst (Aa.map vI)) := upd_same; generalize upd H g (.lst (Aa.map vI)) = H1 at s1 eg; have hgo := bk_out G hg; refine ⟨_, rfl, b, dx, _, rfl, s1 _ _ hob, lk0 (by decide +kernel) (by decide +kernel) (by decide +kernel), _, rfl, b, dn, lf, lc, st, _, o, rfl, G.up s1, hn, ⟨g, Aa, rfl, eg, hO.any⟩, fun x ho p H' s' G' ep => ?_, fun ho H' s' => ?_⟩
    . subst ho
      have eg' := s' _ _ hgo eg; have hgp : p ≠ g := ne_of ep eg' (fun z => nomatch z); have hAl := hO.le; refine ⟨_, rfl, .inl ⟨rfl, _, SqL.of eg'⟩, g, _, _, rfl, rfl, eg', smallt (by rw [List.length_map]; omega), _, rfl, ?_⟩
      exact q _ _ (sx_new ((Same.x s1 _).trans s') hg _) (bk_put G' hgo eg' _) ⟨p, rfl, by rw [upd_ne hgp]; exact ep⟩
    . subst ho
      have s2 := s1.trans s'; refine ⟨true, y4, iteT ⟨CN, rfl, fun x hx => ?_⟩⟩; have s3 := s2.trans (same_new hx (errO x CN)); have ex : (upd H' x (errO x CN)) x = some (errO x CN) := upd_same; generalize upd H' x (errO x CN) = H3 at s3 ex; refine ⟨_, rfl, x, CN, _, true, rfl, ex, xn, ⟨_, rfl, iteT ?_⟩, .inr (.inl ⟨CN, rfl, kit_self2 K _⟩)⟩; refine ⟨_, rfl, x, CN, _, false, rfl, ex, xn, ⟨_, rfl, iteF ?_⟩, .inr (.inl ⟨CK, rfl, y6⟩)⟩; refine ⟨_, rfl, x, CN, _, false, rfl, ex, xn, ⟨_, rfl, iteF ?_⟩, .inr (.inl ⟨CF, rfl, y8⟩)⟩; refine ⟨_, rfl, x, CN, _, true, rfl, ex, xn, ⟨_, rfl, iteF ?_⟩, .inl ⟨_, rfl, y10⟩⟩; refine ⟨_, rfl, (by show 2 <= sizeLine; decide), fun p hp => ?_⟩
      have s4 := s3.trans (same_new hp (.tup [V.str (Str.ofString "refused"), V.str (Str.ofString "no tree")])); exact ⟨_, rfl, q _ _ (Same.x s4 _) (G.up s4) ⟨p, rfl, upd_same⟩⟩
  | .tr false o, ⟨v, ht, hA⟩, q =>
    have ht : H t = some (.tup [.str "free", v]) := ht; refine hld fun g_ k_ => ?_; obtain ⟨u, L, ps, c, li, rfl, T, hO⟩ := hA; refine k_ ?_; have hul : li.length <= 20 := hO.le; refine ⟨_, rfl, t, _, _, _, rfl, rfl, SqT.of ht, rfl, rfl, _, rfl, strNe (by decide +kernel) ?_⟩
    refine ⟨_, rfl, t, _, _, _, rfl, rfl, SqT.of ht, rfl, rfl, _, rfl, strEq rfl ?_⟩; refine ⟨_, rfl, t, _, _, _, rfl, rfl, SqT.of ht, rfl, u, _, _, _, rfl, rfl, SqT.of T.tup, rfl, _, rfl, t, _, _, _, rfl, rfl, SqT.of ht, rfl, u, _, _, _, rfl, rfl, SqT.of T.tup, rfl, L, _, rfl, .inl (SqL.of T.ls.top), fun g hg => ⟨(by show 2 <= sizeLine; decide), fun u2 hu2 => ?_⟩⟩
    have T1 : TreeAt (upd (upd H g (.lst (ps.map V.ref))) u2 (.tup [.int c, .ref g])) u2 g ps c li := ⟨upd_same, (lines_copy T.ls hg).up (same_new hu2 _)⟩; have s1 : Same H (upd (upd H g (.lst (ps.map V.ref))) u2 (.tup [.int c, .ref g])) := (same_new hg _).trans (same_new hu2 _); generalize upd (upd H g (.lst (ps.map V.ref))) u2 (.tup [.int c, .ref g]) = H1 at s1 T1; have hgo := bk_out G hg; refine ⟨_, rfl, b, dx, _, rfl, s1 _ _ hob, lk0 (by decide +kernel) (by decide +kernel) (by decide +kernel), _, rfl, b, dn, lf, lc, st, _, o, rfl, G.up s1, hn, ⟨u2, g, ps, c, li, rfl, T1, hO⟩, fun x ho p H' s' G' ep => ?_, fun ho H' s' => ?_⟩
    . subst ho
      have eg' := s' _ _ hgo T1.ls.top; have eu' := s' _ _ ((G.up s1).tup T1.tup) T1.tup; have hgp : p ≠ g := ne_of ep eg' (fun z => nomatch z); refine ⟨_, rfl, u2, _, _, _, rfl, rfl, SqT.of eu', rfl, .inl ⟨rfl, _, SqL.of eg'⟩, g, _, rfl, rfl, eg', _, rfl, ?_⟩; exact q _ _ (sx_new ((Same.x s1 _).trans s') hg _) (bk_put G' hgo eg' _) ⟨p, rfl, by rw [upd_ne hgp]; exact ep⟩
    . subst ho
      have s2 := s1.trans s'; refine ⟨true, y4, iteT ⟨CN, rfl, fun x hx => ?_⟩⟩; have s3 := s2.trans (same_new hx (errO x CN)); have ex : (upd H' x (errO x CN)) x = some (errO x CN) := upd_same; generalize upd H' x (errO x CN) = H3 at s3 ex; refine ⟨_, rfl, x, CN, _, true, rfl, ex, xn, ⟨_, rfl, iteT ?_⟩, .inr (.inl ⟨CN, rfl, kit_self2 K _⟩)⟩; refine ⟨_, rfl, x, CN, _, false, rfl, ex, xn, ⟨_, rfl, iteF ?_⟩, .inr (.inl ⟨CK, rfl, y6⟩)⟩; refine ⟨_, rfl, x, CN, _, false, rfl, ex, xn, ⟨_, rfl, iteF ?_⟩, .inr (.inl ⟨CF, rfl, y8⟩)⟩; refine ⟨_, rfl, x, CN, _, true, rfl, ex, xn, ⟨_, rfl, iteF ?_⟩, .inl ⟨_, rfl, y10⟩⟩; refine ⟨_, rfl, (by show 2 <= sizeLine; decide), fun p hp => ?_⟩
      have s4 := s3.trans (same_new hp (.tup [V.str (Str.ofString "refused"), V.str (Str.ofString "no tree")])); exact ⟨_, rfl, q _ _ (Same.x s4 _) (G.up s4) ⟨p, rfl, upd_same⟩⟩
end
end K13
namespace K13
open PySem L2 KM KD PyProof.Rows
section
variable {P : Program} {w : World} {K : PySem.W.Frag} {mg : Str -> Option Value} {base : Heap} {f : Addr} {fd : FuncData}
theorem scDeeds : FnScope ["_law_cells", "_law_asked", "_law_k", "_law_way", "_law_four", "_law_above", "_law_lines", "_law_many", "_law_kind"] ["_law_cells"] (defScope sDeeds) := ⟨rfl, rfl, rfl, by decide +kernel, rfl, by decide +kernel, by decide +kernel⟩
theorem ok_deeds {f1 f2 : Addr} {d1 d2 : FuncData} (F : Fun K "_law_deeds" "_law_deeds" sDeeds f fd) (GR : Kit P w K mg base 1 "_law_rooted" ["_law_cells"] spRooted f1 d1) (GLo : Kit P w K mg base 1 "_law_lines_of" ["_law_above", "_law_cells"] spLinesOfN f2 d2) (ml : mg "len" = none) (mr : mg "range" = none) :
    FnOk P w K mg base CX0 2 f fd ["_law_cells"] spDeeds := by
  refine F.ok scDeeds (fun vs H Q E h => ?_) (fun cdv A outer s H vs Q E hr h => ?_)
  . obtain ⟨c, ns, rfl, _⟩ := h
    rfl
  obtain ⟨c, ns, rfl, hc, hn, q⟩ := h
  refine ⟨_, pss_cons (ps_set (i := 1) scDeeds.nd rfl (Or.inl rfl) (pe_lst pa_nil))
    (pss_cons (ps_for PassesOwn.never rfl (pi_range3 rfl mr (pa_cons pe_int (pa_cons (pe_op op_sub (pe_callB call_len_seq rfl ml PySem.boot_len (pa_cons (pv 0) pa_nil)) pe_int) (pa_cons pe_int pa_nil)))) (pg_name (i := 2) scDeeds.nd rfl (Or.inl rfl))
      (pss_cons (ps_set (i := 3) scDeeds.nd rfl (Or.inl rfl) (pe_op op_mod (pe_ix ix_list (pv 0) (pv 2) (fun _ _ => rfl)) pe_int))
      (pss_cons (ps_set (i := 4) scDeeds.nd rfl (Or.inl rfl) (pe_lst (pa_cons (pe_ix ix_list (pv 0) (pe_op op_add (pv 2) pe_int) (fun _ _ => rfl)) (pa_cons (pe_ix ix_list (pv 0) (pe_op op_add (pv 2) pe_int) (fun _ _ => rfl)) (pa_cons (pe_op op_add (pe_ix ix_list (pv 0) (pv 2) (fun _ _ => rfl)) (pv 2)) (pa_cons (pv 2) pa_nil))))))
      (pss_cons (ps_set (i := 5) scDeeds.nd rfl (Or.inl rfl) (pe_call GR.ok hr rfl GR.mg GR.kp GR.bd .nil pass0 (pa_cons (pe_slice sl_list (pv 4) po_none (po_some (pe_op op_mod (pe_ix ix_list (pv 0) (pe_op op_add (pv 2) pe_int) (fun _ _ => rfl)) pe_int))) pa_nil)))
      (pss_cons (ps_set (i := 6) scDeeds.nd rfl (Or.inl rfl) (pe_call GLo.ok hr rfl GLo.mg GLo.kp GLo.bd .nil pass0 (pa_cons (pv 5) (pa_cons (pe_slice sl_list (pv 0) (po_some (pv 2)) (po_some (pe_op op_add (pv 2) pe_int))) pa_nil))))
      (pss_cons (ps_set (i := 7) scDeeds.nd rfl (Or.inl rfl) (pe_callB call_len_seq rfl ml PySem.boot_len (pa_cons (pv 5) pa_nil)))
      (pss_cons (ps_if (pt_cmpR op_eq (pe_op op_mod (pe_ix ix_list (pv 0) (pe_op op_add (pv 2) pe_int) (fun _ _ => rfl)) pe_int) pe_int (nomark _))
        (pss_cons (ps_asg (pe_op op_pow pe_int pe_int) (pg_sub (pv 5) (pe_un un_neg pe_int) set_list))
        (pss_cons (ps_set (i := 6) scDeeds.nd rfl (Or.inl rfl) (pe_op op_cat (pv 6) (pe_lst (pa_cons (pe_tup (pa_cons pe_int (pa_cons (pe_op op_pow pe_int pe_int) pa_nil))) pa_nil))))
        (pss_one (ps_set (i := 7) scDeeds.nd rfl (Or.inl rfl) (pe_op op_add (pv 7) pe_int))))) pss_nil)
      (pss_one (ps_if (pt_cmpR op_lt (pv 3) pe_int (nomark _)) (pss_one (ps_expr (pe_bm PySem.F.plainAttrs_list PySem.F.slot_list_append PySem.F.type_list_append mt_append (pv 1) (pa_cons (pe_tup (pa_cons pe_str (pa_cons (pv 5) pa_nil))) pa_nil))))
        (pss_one (ps_if (pt_cmpR op_lt (pv 3) pe_int (nomark _)) (pss_one (ps_expr (pe_bm PySem.F.plainAttrs_list PySem.F.slot_list_append PySem.F.type_list_append mt_append (pv 1) (pa_cons (pe_tup (pa_cons pe_str (pa_cons (pe_tup (pa_cons (pv 7) (pa_cons (pv 6) pa_nil))) pa_nil))) pa_nil))))
          (pss_cons (ps_set (i := 8) scDeeds.nd rfl (Or.inl rfl) (pe_op op_sub (pe_op op_mod (pe_ix ix_list (pv 0) (pe_op op_add (pv 2) pe_int) (fun _ _ => rfl)) (pe_op op_add (pe_callB call_len_seq rfl ml PySem.boot_len (pa_cons (pv 1) pa_nil)) pe_int)) pe_int))
          (pss_cons (ps_if (pt_cmpR op_eq (pe_op op_mod (pe_ix ix_list (pv 0) (pe_op op_add (pv 2) pe_int) (fun _ _ => rfl)) pe_int) pe_int (nomark _)) (pss_one (ps_set (i := 8) scDeeds.nd rfl (Or.inl rfl) (pe_op op_pow pe_int pe_int))) pss_nil)
          (pss_one (ps_expr (pe_bm PySem.F.plainAttrs_list PySem.F.slot_list_append PySem.F.type_list_append mt_append (pv 1) (pa_cons (pe_tup (pa_cons pe_str (pa_cons (pv 8) pa_nil))) pa_nil)))))))))))))))))
    (pss_one (ps_ret (pe_op op_cat (pv 1) (pe_lst (pa_cons (pe_tup (pa_cons pe_str (pa_cons pe_int pa_nil))) pa_nil)))))), ?_⟩
  have hln : (ns.map V.int).length = ns.length := List.length_map _; refine cutS fun N1 hN1 => ?_; refine ⟨(by show 0 <= sizeLine; decide), fun l hl => hN1 _ _ ?_⟩
  refine cutS fun N0 hN0 => ?_; have s0 := same_new hl (.lst []); have el0 : (upd H l (.lst [])) l = some (.lst []) := upd_same; generalize upd H l (.lst []) = H0 at s0 el0; refine ⟨_, rfl, c, _, rfl, .inl (SqL.of (s0 _ _ hc)), _, _, rfl, rfl, _, _, _, rfl, (by show (0 : Int) < 3; decide), long3 _, (by rw [hln]; exact small3 (by omega)), ns.length / 3, (by rw [hln]; exact size3 _), ?_⟩
  refine for_stepN (lo := 0) (c := 3) (n := ns.length / 3) (fun i σ H3 => (∃ o2 o3 o4 o5 o6 o7 o8, σ = [some (.ref c), some (.ref l), o2, o3, o4, o5, o6, o7, o8]) /\ Same H H3 /\ ∃ (rs : List Addr) (ds : List DD), H3 l = some (.lst (rs.map V.ref)) /\ DeedsH l H3 rs ds /\ ds.length = i)
    ⟨⟨_, _, _, _, _, _, _, rfl⟩, s0, [], [], el0, ⟨rfl, fun j t d h => (nomatch h)⟩, rfl⟩ ?_ ?_
  . rintro i σ H3 hi p_ M hM
    refine hld fun g_ k_ => ?_; obtain ⟨⟨o2, o3, o4, o5, o6, o7, o8, rfl⟩, s3, rs, ds, el, G, hds⟩ := p_; refine k_ ?_; rw [show (0 : Int) + (i : Nat) * 3 = ((3 * i : Nat) : Int) by omega]
    have h0 : ns[3 * i]? = some (ns[3 * i]'(by omega)) := List.getElem?_eq_getElem (by omega)
    have h1 : ns[3 * i + 1]? = some (ns[3 * i + 1]'(by omega)) := List.getElem?_eq_getElem (by omega)
    have h2 : ns[3 * i + 2]? = some (ns[3 * i + 2]'(by omega)) := List.getElem?_eq_getElem (by omega)
    generalize ns[3 * i]'(by omega) = c0 at h0
    generalize ns[3 * i + 1]'(by omega) = c1 at h1
    generalize ns[3 * i + 2]'(by omega) = c2 at h2
    have a0 : atI (ns.map V.int) ((3 * i : Nat) : Int) = some (.int c0) := at_map h0; have a1 : atI (ns.map V.int) (((3 * i : Nat) : Int) + 1) = some (.int c1) := at_map (i := 3 * i + 1) h1; have a2 : atI (ns.map V.int) (((3 * i : Nat) : Int) + 2) = some (.int c2) := at_map (i := 3 * i + 2) h2; generalize ((3 * i : Nat) : Int) = k at a0 a1 a2; have hrl : (rs.map V.ref).length = i := by rw [List.length_map, G.len, hds]
    have hc3 := s3 _ _ hc; refine cutS fun N1 hN1 => ?_; refine ⟨_, rfl, _, rfl, c, _, _, _, rfl, rfl, SqL.of hc3, a0, _, _, rfl, rfl, (by show (0 : Int) < 5; decide), hN1 _ _ ?_⟩
    refine cutS fun N1 hN1 => ?_; refine ⟨_, rfl, _, rfl, _, _, rfl, rfl, c, _, _, _, rfl, rfl, SqL.of hc3, a1, _, rfl, _, rfl, _, _, rfl, rfl, c, _, _, _, rfl, rfl, SqL.of hc3, a2, _, rfl, _, rfl, c, _, _, _, rfl, rfl, SqL.of hc3, a0, _, rfl, _, _, rfl, rfl, _, rfl, (by show 4 <= sizeLine; decide), fun p4 hp4 => hN1 _ _ ?_⟩
    have s4 := same_new hp4 (.lst [V.int c1, V.int c2, V.int (c0 + k), V.int k]); have e4 : (upd H3 p4 (.lst [V.int c1, V.int c2, V.int (c0 + k), V.int k])) p4 = some (.lst ([c1, c2, c0 + k, k].map V.int)) := upd_same; generalize upd H3 p4 (.lst [V.int c1, V.int c2, V.int (c0 + k), V.int k]) = H4 at s4 e4; have hc4 := s4 _ _ hc3; refine cutS fun N1 hN1 => ?_; refine ⟨_, rfl, _, rfl, _, rfl, _, _, rfl, rfl, c, _, _, _, rfl, rfl, SqL.of hc4, a2, _, _, rfl, rfl, (by show (0 : Int) < 5; decide), _, rfl, p4, _, rfl, SqL.of e4, fun p5 hp5 => ?_⟩
    obtain ⟨cs, ecs, hcs⟩ := cut_any [c1, c2, c0 + k, k] none (some (c2 % 5)); rw [ecs]; have hcs4 : cs.length <= 4 := hcs; have s5 := s4.trans (same_new hp5 (.lst (cs.map V.int))); have e5 : (upd H4 p5 (.lst (cs.map V.int))) p5 = some (.lst (cs.map V.int)) := upd_same; generalize upd H4 p5 (.lst (cs.map V.int)) = H5 at s5 e5; refine ⟨p5, cs, rfl, e5, by omega, fun ar ab H6 s6 U hlen har ear => hN1 _ _ ?_⟩
    have s6' := s5.trans s6; have hc6 := s6' _ _ hc3; have har3 := s5.free har; refine cutS fun N1 hN1 => ?_; refine ⟨_, rfl, _, rfl, _, rfl, _, rfl, _, rfl, _, _, rfl, rfl, _, rfl, c, _, rfl, SqL.of hc6, fun p7 hp7 => ?_⟩; obtain ⟨cs2, ecs2, hcs2⟩ := cut_any ns (some k) (some (k + 3)); rw [ecs2]; have s7 := same_new hp7 (.lst (cs2.map V.int)); have e7 : (upd H6 p7 (.lst (cs2.map V.int))) p7 = some (.lst (cs2.map V.int)) := upd_same; generalize upd H6 p7 (.lst (cs2.map V.int)) = H7 at s7 e7; have ear7 := s7 _ _ ear; refine ⟨ar, p7, ab, cs2, rfl, ear7, e7, U, by omega, by omega, fun L ps ls H8 s8 hL G8 f8 => hN1 _ _ ?_⟩
    have s38 := s6'.trans (s7.trans s8); have hL3 := (s6'.trans s7).free hL; have ear8 := s8 _ _ ear7; have hc8 := s38 _ _ hc3; have hal : (ab.map vO).length = ab.length := List.length_map _; have hpos := U.pos; have hll := f8.len U.tree; refine cutS fun N1 hN1 => ?_; refine ⟨_, rfl, ar, _, rfl, .inl (SqL.of ear8), hN1 _ _ ?_⟩; refine cutS fun N1 hN1 => ?_; refine ⟨_, rfl, _, rfl, _, _, rfl, rfl, c, _, _, _, rfl, rfl, SqL.of hc8, a1, _, _, rfl, rfl, (by show (0 : Int) < 9; decide), rfl, _, rfl, ?_⟩
    have tail : ∀ (σ9 : L2.St) (H9 : Hp) (x4 : Option V) (A9 : AI) (oR oF : Option Tx) (L9 : Addr) (ps9 : List Addr) (li9 : LI) (m9 : Int), σ9 = [some (.ref c), some (.ref l), some (.int k), some (.int (c0 % 5)), x4, some (.ref ar), some (.ref L9), some (.int m9), o8] ->
        Same H3 H9 -> H3 L9 = none -> H9 ar = some (.lst (A9.map vI)) -> RtO true A9 oR -> LinesAt H9 L9 ps9 li9 -> FrO m9 li9 oF -> N1 σ9 H9 := ?tail
    . skip
      refine ite2 (fun _ => ?A) (fun _ => ?B)
      case B =>
        refine tail _ _ _ (ab.map toI) (some (fm ab 0)) (some (ff ab.length ls)) L ps (toL ls) (((ab.map vO).length : Nat) : Int) rfl s38 hL3 (by rw [map_vI]; exact ear8) ⟨ab, 0, _, rfl, U.tree, fun _ => ⟨U, rfl⟩, by omega, rfl⟩ G8 ⟨ab.length, ls, by rw [hal], rfl, ⟨ab, 0, _, U.tree, rfl, f8⟩, hpos, by omega, rfl⟩
      case A =>
        refine ⟨_, _, rfl, rfl, ⟨by decide, by decide, by decide⟩, _, rfl, 1, rfl, ar, _, _, ab.length - 1, rfl, rfl, ear8, (by rw [hal]; exact ixN_last hpos), ?_⟩
        have hset : (ab.map vO).set (ab.length - 1) (V.int ((10 : Int) ^ (20 : Int).toNat)) = ((ab.map toI).set (ab.length - 1) (some big)).map vI := by rw [List.map_set, map_vI]; rfl
        rw [hset]
        have hLar : L ≠ ar := fun z => by
          have := (s7 _ _ ear); rw [<- z, hL] at this
          cases this
        have s9 : Same H3 (upd H8 ar (.lst (((ab.map toI).set (ab.length - 1) (some big)).map vI))) := same_upd s38 har3 _; have e9 : (upd H8 ar (.lst (((ab.map toI).set (ab.length - 1) (some big)).map vI))) ar = some (.lst (((ab.map toI).set (ab.length - 1) (some big)).map vI)) := upd_same; have G9 : LinesAt (upd H8 ar (.lst (((ab.map toI).set (ab.length - 1) (some big)).map vI))) L ps (toL ls) := tups_upX G8 (D := [ar]) (SameX.put (p := ar) (Same.x (Same.refl _) _) (by simp) _) (by simpa using hLar) fun c ys hc => by rw [List.mem_singleton]; exact ne_of hc ear8 (fun z => nomatch z)
        generalize upd H8 ar (.lst (((ab.map toI).set (ab.length - 1) (some big)).map vI)) = H9 at s9 e9 G9; refine ⟨_, rfl, _, _, rfl, rfl, ⟨by decide, by decide, by decide⟩, (by show 2 <= sizeLine; decide), fun t9 ht9 => ?_⟩
        have s10 := same_new ht9 (.tup [V.int 0, V.int ((10 : Int) ^ (20 : Int).toNat)]); have e10 : (upd H9 t9 (.tup [V.int 0, V.int ((10 : Int) ^ (20 : Int).toNat)])) t9 = some (.tup (vP (0, big))) := upd_same; generalize upd H9 t9 (.tup [V.int 0, V.int ((10 : Int) ^ (20 : Int).toNat)]) = H10 at s10 e10; refine ⟨(by show 1 <= sizeLine; decide), fun q9 hq9 => ?_⟩
        have s11 := same_new hq9 (.lst [V.ref t9]); have e11 : (upd H10 q9 (.lst [V.ref t9])) q9 = some (.lst [V.ref t9]) := upd_same; have et11 := s11 _ _ e10; generalize upd H10 q9 (.lst [V.ref t9]) = H11 at s11 e11 et11; have G11 := G9.up (s10.trans s11); have hpl : (ps.map V.ref).length = ls.length := by rw [List.length_map, G8.len, List.length_map, toL_len]
        refine ⟨L, q9, _, _, rfl, rfl, G11.top, e11, small (by rw [hpl]; show ls.length + 1 <= 1000000; omega), fun L9 hL9 => ?_⟩
        have s12 := s10.trans (s11.trans (same_new hL9 (.lst (ps.map V.ref ++ [V.ref t9]))))
        have GL : LinesAt (upd H11 L9 (.lst (ps.map V.ref ++ [V.ref t9]))) L9 (ps ++ [t9]) (toL ls ++ [(0, big)]) := by
          have := tups_snoc (lines_copy G11 hL9) (same_new hL9 _ _ _ et11) (flat_vP (0, big)); have e : upd (upd H11 L9 (.lst (ps.map V.ref))) L9 (.lst (ps.map V.ref ++ [V.ref t9])) = upd H11 L9 (.lst (ps.map V.ref ++ [V.ref t9])) := upd_upd; rw [e] at this; rw [show LinesAt (upd H11 L9 (.lst (ps.map V.ref ++ [V.ref t9]))) L9 (ps ++ [t9]) (toL ls ++ [(0, big)]) = TupsAt (upd H11 L9 (.lst (ps.map V.ref ++ [V.ref t9]))) L9 (ps ++ [t9]) ((toL ls).map vP ++ [vP (0, big)]) from by show TupsAt _ _ _ (List.map vP (toL ls ++ [(0, big)])) = _; rw [List.map_append]; rfl]
          exact this
        refine ⟨_, rfl, _, _, rfl, rfl, ?_⟩; have hbig := big_gt; refine tail _ _ _ ((ab.map toI).set (ab.length - 1) (some big)) none none L9 (ps ++ [t9]) (toL ls ++ [(0, big)]) _ rfl (s9.trans s12) ((s9.trans (s10.trans s11)).free hL9) (s12 _ _ e9) ?_ GL ?_
        . have hlA : ((ab.map toI).set (ab.length - 1) (some big)).length = ab.length := by rw [List.length_set, List.length_map]
          have hmem : some big ∈ (ab.map toI).set (ab.length - 1) (some big) := List.mem_of_getElem? (List.getElem?_set_self (by rw [List.length_map]; omega))
          refine ⟨by omega, fun ⟨ab', r', rk', e', T'⟩ => ?_, hmem⟩
          rw [e'] at hmem hlA; rw [List.length_map] at hlA; exact tree_nobig T' (by omega) hmem
        . have hmem : ((0 : Int), big) ∈ toL ls ++ [(0, big)] := by simp
          refine ⟨by rw [List.length_append, toL_len]; show ls.length + 1 <= 20; omega, fun hF => ?_, hmem⟩
          have h1 := (hF.1.lt _ hmem).2.2; rw [hal] at h1; have h1 : big < (ab.length : Int) + 1 := h1
          omega
    case tail =>
      rintro σ9 H9 x4 A9 oR oF L9 ps9 li9 m9 rfl s9 hL9 ear9 hR9 G9 hF9
      refine hN1 _ _ ?_; have el9 := s9 _ _ el; have harl : ar ≠ l := fun z => by rw [z, el] at har3; cases har3
      have hLl : L9 ≠ l := fun z => by rw [z, el] at hL9; cases hL9
      have fin : ∀ (t1 : Addr) (d : DD) (H10 : Hp), Same H9 H10 -> DeedAt (hid l H10) t1 d -> H10 l = some (.lst (rs.map V.ref)) /\ (rs.map V.ref).length < sizeLine /\
          (Same H (upd H10 l (.lst (rs.map V.ref ++ [V.ref t1]))) /\ ∃ (rs' : List Addr) (ds' : List DD), (upd H10 l (.lst (rs.map V.ref ++ [V.ref t1]))) l = some (.lst (rs'.map V.ref)) /\ DeedsH l (upd H10 l (.lst (rs.map V.ref ++ [V.ref t1]))) rs' ds' /\ ds'.length = i + 1) := fun t1 d H10 s10 hd =>
        ⟨s10 _ _ el9, smallt (by rw [hrl]; omega), same_upd (s3.trans (s9.trans s10)) hl _, rs ++ [t1], ds ++ [d], by rw [upd_same, List.map_append]; rfl, (G.up (s9.trans s10)).snoc hd _, by rw [List.length_append, hds]; rfl⟩
      refine ⟨_, rfl, _, _, rfl, rfl, _, rfl, ?_⟩; refine ite2 (fun _ => ?_) (fun _ => ?_)
      . refine ⟨_, rfl, .inl ⟨rfl, _, SqL.of el9⟩, _, rfl, (by show 2 <= sizeLine; decide), fun t1 ht1 => ?_⟩
        have s10 := same_new ht1 (.tup [V.str (Str.ofString "rooted"), V.ref ar]); have e10 : (upd H9 t1 (.tup [V.str (Str.ofString "rooted"), V.ref ar])) t1 = some (.tup [V.str (told true), V.ref ar]) := upd_same; generalize upd H9 t1 (.tup [V.str (Str.ofString "rooted"), V.ref ar]) = H10 at s10 e10; refine hld fun g_ k_ => ?_; obtain ⟨g1, g2, g3, g4⟩ := fin t1 (.tr true oR) H10 s10 ⟨_, hid_of e10 (ne_of e10 (s10 _ _ el9) (fun z => nomatch z)), ar, A9, rfl, hid_of (s10 _ _ ear9) harl, hR9⟩; refine k_ ?_; exact ⟨l, _, _, rfl, rfl, g1, g2, hM _ _ ⟨⟨_, _, _, _, _, _, _, rfl⟩, g3, g4⟩⟩
      refine ⟨_, rfl, _, _, rfl, rfl, _, rfl, ?_⟩; refine ite2 (fun _ => ?_) (fun _ => ?_)
      . refine ⟨_, rfl, .inl ⟨rfl, _, SqL.of el9⟩, _, rfl, _, rfl, (by show 2 <= sizeLine; decide), fun t0 ht0 => ?_⟩
        have s10 := same_new ht0 (.tup [V.int m9, V.ref L9]); have e10 : (upd H9 t0 (.tup [V.int m9, V.ref L9])) t0 = some (.tup [V.int m9, V.ref L9]) := upd_same; generalize upd H9 t0 (.tup [V.int m9, V.ref L9]) = H10 at s10 e10; refine ⟨(by show 2 <= sizeLine; decide), fun t1 ht1 => ?_⟩
        have s11 := same_new ht1 (.tup [V.str (Str.ofString "free"), V.ref t0]); have e11 : (upd H10 t1 (.tup [V.str (Str.ofString "free"), V.ref t0])) t1 = some (.tup [V.str (told false), V.ref t0]) := upd_same; have e10 := s11 _ _ e10; have s11 := s10.trans s11; generalize upd H10 t1 (.tup [V.str (Str.ofString "free"), V.ref t0]) = H11 at s11 e11 e10; have el11 := s11 _ _ el9; refine hld fun g_ k_ => ?_; obtain ⟨g1, g2, g3, g4⟩ := fin t1 (.tr false oF) H11 s11 ⟨_, hid_of e11 (ne_of e11 el11 (fun z => nomatch z)), t0, L9, ps9, m9, li9, rfl, ⟨hid_of e10 (ne_of e10 el11 (fun z => nomatch z)), hid_lines (G9.up s11) hLl el11⟩, hF9⟩; refine k_ ?_; exact ⟨l, _, _, rfl, rfl, g1, g2, hM _ _ ⟨⟨_, _, _, _, _, _, _, rfl⟩, g3, g4⟩⟩
      have hc9 := s9 _ _ hc3; refine cutS fun N1 hN1 => ?_; refine ⟨_, rfl, _, rfl, _, _, rfl, rfl, c, _, _, _, rfl, rfl, SqL.of hc9, a1, _, rfl, l, _, rfl, .inl (SqL.of el9), _, _, rfl, rfl, _, _, rfl, rfl, (by show (0 : Int) < (((rs.map V.ref).length : Nat) : Int) + 3; omega), _, _, rfl, rfl, hN1 _ _ ?_⟩
      refine cutS fun N1 hN1 => ?_; refine ⟨_, rfl, _, rfl, _, _, rfl, rfl, c, _, _, _, rfl, rfl, SqL.of hc9, a2, _, _, rfl, rfl, (by show (0 : Int) < 9; decide), rfl, _, rfl, ?_⟩
      have last : ∀ (kd : Int) (t1 : Addr), H9 t1 = none -> H9 l = some (.lst (rs.map V.ref)) /\ _ := fun kd t1 ht1 => by
        have s10 := same_new ht1 (.tup [V.str (Str.ofString "form"), V.int kd]); have e10 : (upd H9 t1 (.tup [V.str (Str.ofString "form"), V.int kd])) t1 = some (.tup [V.str (Str.ofString "form"), V.int kd]) := upd_same; exact ⟨el9, fin t1 (.fo kd) _ s10 (hid_of e10 (ne_of e10 (s10 _ _ el9) (fun z => nomatch z)))⟩
      refine ite2 (fun _ => ?_) (fun _ => ?_)
      . refine ⟨_, _, rfl, rfl, ⟨by decide, by decide, by decide⟩, hN1 _ _ ?_⟩
        refine ⟨_, rfl, .inl ⟨rfl, _, SqL.of el9⟩, _, rfl, (by show 2 <= sizeLine; decide), fun t1 ht1 => ?_⟩
        obtain ⟨_, g1, g2, g3, g4⟩ := last _ t1 ht1; exact ⟨l, _, _, rfl, rfl, g1, g2, hM _ _ ⟨⟨_, _, _, _, _, _, _, rfl⟩, g3, g4⟩⟩
      . refine hN1 _ _ ?_
        refine ⟨_, rfl, .inl ⟨rfl, _, SqL.of el9⟩, _, rfl, (by show 2 <= sizeLine; decide), fun t1 ht1 => ?_⟩
        obtain ⟨_, g1, g2, g3, g4⟩ := last _ t1 ht1; exact ⟨l, _, _, rfl, rfl, g1, g2, hM _ _ ⟨⟨_, _, _, _, _, _, _, rfl⟩, g3, g4⟩⟩
  . rintro σ H3 p_
    refine hld fun g_ k_ => ?_; obtain ⟨⟨o2, o3, o4, o5, o6, o7, o8, rfl⟩, s3, rs, ds, el, G, hds⟩ := p_; refine k_ ?_; refine hN0 _ _ ?_; refine ⟨_, rfl, (by show 2 <= sizeLine; decide), fun t2 ht2 => ?_⟩
    have s4 := same_new ht2 (.tup [V.str (Str.ofString "form"), V.int 0]); have e4 : (upd H3 t2 (.tup [V.str (Str.ofString "form"), V.int 0])) t2 = some (.tup [V.str (Str.ofString "form"), V.int 0]) := upd_same; generalize upd H3 t2 (.tup [V.str (Str.ofString "form"), V.int 0]) = H4 at s4 e4; refine ⟨(by show 1 <= sizeLine; decide), fun q2 hq2 => ?_⟩
    have s5 := same_new hq2 (.lst [V.ref t2]); have e5 : (upd H4 q2 (.lst [V.ref t2])) q2 = some (.lst [V.ref t2]) := upd_same; have e4 := s5 _ _ e4; have s5 := s4.trans s5; generalize upd H4 q2 (.lst [V.ref t2]) = H5 at s5 e5 e4; have hrl : (rs.map V.ref).length = ds.length := by rw [List.length_map, G.len]
    refine ⟨l, q2, _, _, rfl, rfl, s5 _ _ el, e5, small (by rw [hrl]; show ds.length + 1 <= 1000000; omega), fun l2 hl2 => ?_⟩
    have s6 := same_new hl2 (.lst (rs.map V.ref ++ [V.ref t2])); refine q l2 (rs ++ [t2]) (ds ++ [.fo 0]) _ (s3.trans (s5.trans s6)) ⟨by rw [upd_same, List.map_append]; rfl, by rw [List.length_append, List.length_append, G.len]; rfl, ?_⟩ (by rw [List.length_append]; show ds.length + 1 <= 21; omega) (by rw [List.length_append]; exact Nat.succ_pos _)
    refine snoc_at (P := fun t d => DeedAt _ t d) G.len (fun j t d h1 h2 => ?_) (s6 _ _ e4); exact (((G.up (s5.trans s6)).each j t d h1 h2)).up (hid_same _ _)
end
end K13
namespace K13
open PySem L2 KM KD PyProof.Rows
section
variable {P : Program} {w : World} {K : PySem.W.Frag} {mg : Str -> Option Value} {base : Heap} {f : Addr} {fd : FuncData}
theorem bookS : (Str.ofString "()-()") = mkS [40, 41, 45, 40, 41] := by decide +kernel
theorem nin2 {a x y : Addr} (h1 : a ≠ x) (h2 : a ≠ y) : a ∉ [x, y] := by simp [h1, h2]
theorem all3 {p : Addr -> Prop} {x y z : Addr} (h1 : p x) (h2 : p y) (h3 : p z) : ∀ b ∈ [x, y, z], p b := by
  intro b hb
  rcases List.mem_cons.mp hb with rfl | hb
  . exact h1
  . rcases List.mem_cons.mp hb with rfl | hb
    . exact h2
    . rw [List.mem_singleton.mp hb]; exact h3
structure LawAt (C : Addr) (H0 H : Hp) (b dn lf lc b2 dn2 lf2 lc2 kl tl : Addr) (s s2 : Sb) : Prop where
  same : Same H0 H
  one : BookAt C H b dn lf lc s
  two : BookAt C H b2 dn2 lf2 lc2 s2
  kd : ∃ rs, TupsAt H kl rs (s.1.map pairB)
  tm : H tl = some (.lst (s.2.map vN))
structure Apart (H0 : Hp) (dn lf lc dn2 lf2 lc2 kl tl : Addr) : Prop where
  n1 : ∀ x ∈ [dn, lf, lc], H0 x = none
  n2 : H0 kl = none
  n3 : H0 tl = none
  a1 : ∀ x ∈ [dn, lf, lc], x ∉ [kl, tl]
  a2 : ∀ x ∈ [dn2, lf2, lc2], x ∉ [kl, tl]
  a3 : ∀ x ∈ [dn2, lf2, lc2], x ∉ [dn, lf, lc]
  kt : kl ≠ tl
section
variable {C : Addr} {H0 H H' : Hp} {b dn lf lc b2 dn2 lf2 lc2 kl tl : Addr} {s s2 s' : Sb}
theorem ins_out {D : List Addr} (h : ∃ dx, H b = some (.ins C dx (fsB dn lf lc))) (hD : ∀ x ∈ D, ∀ dx fs, H x ≠ some (.ins C dx fs)) : b ∉ D := fun z => by
  obtain ⟨dx, h⟩ := h; exact hD b z dx _ h
theorem LawAt.due (L : LawAt C H0 H b dn lf lc b2 dn2 lf2 lc2 kl tl s s2) (A : Apart H0 dn lf lc dn2 lf2 lc2 kl tl) (sx : SameX [kl, tl] H H') :
    Same H0 H' /\ BookAt C H' b dn lf lc s /\ BookAt C H' b2 dn2 lf2 lc2 s2 := by
  have hi : ∀ x ∈ [kl, tl], ∀ dx fs, H x ≠ some (.ins C dx fs) := fun x hx dx fs h => by
    rcases List.mem_cons.mp hx with rfl | hx
    . obtain ⟨rs, G⟩ := L.kd
      rw [G.top] at h; cases h
    . rw [List.mem_singleton.mp hx, L.tm] at h; cases h
  refine ⟨SameX.base L.same sx fun x hx => ?_, L.one.upX sx (ins_out L.one.ob hi) (A.a1 _ (by simp)) (A.a1 _ (by simp)) (A.a1 _ (by simp)), L.two.upX sx (ins_out L.two.ob hi) (A.a2 _ (by simp)) (A.a2 _ (by simp)) (A.a2 _ (by simp))⟩
  rcases List.mem_cons.mp hx with rfl | hx
  . exact A.n2
  . rw [List.mem_singleton.mp hx]; exact A.n3
theorem bk_ins (B : BookAt C H b dn lf lc s) : ∀ x ∈ [dn, lf, lc], ∀ dx fs, H x ≠ some (.ins C dx fs) := fun x hx dx fs h => by
  rcases List.mem_cons.mp hx with rfl | hx
  . rw [B.nu] at h; cases h
  . rcases List.mem_cons.mp hx with rfl | hx
    . rw [B.fo] at h; cases h
    . rw [List.mem_singleton.mp hx, B.co] at h; cases h
theorem told_keeps (A : Apart H0 dn lf lc dn2 lf2 lc2 kl tl) (hs : Same H0 H) (B : BookAt C H b dn lf lc s) (B2 : BookAt C H b2 dn2 lf2 lc2 s2) {rs : List Addr} {yss : List (List V)} {xs : List V} (G : TupsAt H kl rs yss) (ht : H tl = some (.lst xs)) (sx : SameX [dn, lf, lc] H H') :
    Same H0 H' /\ BookAt C H' b2 dn2 lf2 lc2 s2 /\ TupsAt H' kl rs yss /\ H' tl = some (.lst xs) :=
  ⟨SameX.base hs sx A.n1, B2.upX sx (ins_out B2.ob (bk_ins B)) (A.a3 _ (by simp)) (A.a3 _ (by simp)) (A.a3 _ (by simp)),
    tups_upX G sx (fun z => A.a1 _ z (by simp)) fun c ys h => B.tup h, sx _ _ (fun z => A.a1 _ z (by simp)) ht⟩
end
theorem bk_some {C : Addr} {H : Hp} {b dn lf lc : Addr} {s : Sb} (B : BookAt C H b dn lf lc s) : ∀ x ∈ [dn, lf, lc], ∃ o, H x = some o := all3 ⟨_, B.nu⟩ ⟨_, B.fo⟩ ⟨_, B.co⟩
theorem book_n {y : Kd} : ([vN (List.idxOf y (([], []) : Sb).1), vN (bkN (([], []) : Sb).1 (([], []) : Sb).2 y)] : List V) = [vN 0, vN 1] := by simp [bkN, bkA]
theorem book_1 {y : Kd} : ((bkK (([], []) : Sb).1 y, bkT (([], []) : Sb).1 (([], []) : Sb).2 y) : Sb) = ([y], [1]) := by simp [bkK, bkT, bkN, bkA]
theorem book_m {x y : Tx} : ([vN (List.idxOf (true, x) (([(false, y)], [1]) : Sb).1), vN (bkN (([(false, y)], [1]) : Sb).1 (([(false, y)], [1]) : Sb).2 (true, x))] : List V) = [vN 1, vN 1] := by simp [bkN, bkA, List.idxOf_cons, show (((false, y) : Kd) == (true, x)) = false from beq_eq_false_iff_ne.mpr (by simp)]
theorem book_2 {x y : Tx} : ((bkK (([(false, y)], [1]) : Sb).1 (true, x), bkT (([(false, y)], [1]) : Sb).1 (([(false, y)], [1]) : Sb).2 (true, x)) : Sb) = ([(false, y), (true, x)], [1, 1]) := by simp [bkK, bkT, bkN, bkA, List.idxOf_cons, show (((false, y) : Kd) == (true, x)) = false from beq_eq_false_iff_ne.mpr (by simp)]
theorem scLaw : FnScope ["_law_script", "_law_asked", "_law_handed", "_law_found", "_law_book", "_law_second", "_law_kinds", "_law_times", "_law_k", "_law_due", "_law_told"] ["_law_script"] (defScope sLaw) := ⟨rfl, rfl, rfl, by decide +kernel, rfl, by decide +kernel, by decide +kernel⟩
theorem ok_law {C fi f1 f2 f3 f4 f5 f6 f7 f8 f9 fa fb : Addr} {di d1 d2 d3 d4 d5 d6 d7 d8 d9 da db : FuncData} (F : Fun K "law" "law" sLaw f fd) (cl : BookC K C) (mk : Mk K C fi) (GI : FnOk P w K mg base CX0 1 fi di ["self"] (spInitB C)) (bI : Binds K di ["self"] []) (mB : mg "Book" = some (.ref C))
    (GP : Kit P w K mg base 1 "_law_upto" ["_law_script", "_law_small", "_law_great"] (spUpto K) f1 d1) (GD : Kit P w K mg base 2 "_law_deeds" ["_law_cells"] spDeeds f2 d2) (GA : Kit P w K mg base 7 "answers" ["deeds"] spAnswers f3 d3) (GAl : Kit P w K mg base 2 "_law_alike" ["_law_found", "_law_due"] spAlikeA f4 d4)
    (GF : KitM P w K mg base CX0 5 C "free" ["self", "tree"] (spTreeMQ C false) f5 d5) (GR : KitM P w K mg base CX0 4 C "rooted" ["self", "above"] (spTreeMQ C true) f6 d6) (GK : KitM P w K mg base CX0 1 C "form" ["self", "kind"] (spFormMQ C) f7 d7)
    (GDu : Kit P w K mg base 66 "_law_due_of" ["_law_kinds", "_law_times", "_law_deed"] spDueOf f8 d8) (GTo : Kit P w K mg base 6 "_law_told_by" ["_law_book", "_law_deed"] (spToldBy C) f9 d9) (GH : Kit P w K mg base 3 "_law_hand_is" ["_law_told", "_law_due"] spHandIs fa da) (GL : Kit P w K mg base 1 "_law_like" ["_law_found", "_law_due"] spLikeN fb db)
    (ml : mg "len" = none) (mi : mg "isinstance" = none) (mli : mg "list" = none) (mr : mg "range" = none) : FnOk P w K mg base CX0 67 f fd ["_law_script"] (spLaw K) := by
  refine F.ok scLaw (fun vs H Q E h => ?_) (fun cdv A outer s H vs Q E hr h => ?_)
  . obtain ⟨a, ns, rfl, _⟩ := h
    rfl
  obtain ⟨a, ns, rfl, hS, h63, q⟩ := h; have hr1 : Room 1 _ := hr.mono (by decide)
  have hr2 : Room 2 _ := hr.mono (by decide)
  have hr3 : Room 3 _ := hr.mono (by decide)
  have hr4 : Room 4 _ := hr.mono (by decide)
  have hr5 : Room 5 _ := hr.mono (by decide)
  have hr6 : Room 6 _ := hr.mono (by decide)
  have hr7 : Room 7 _ := hr.mono (by decide)
  refine ⟨_, pss_cons (ps_set (i := 0) scLaw.nd rfl (Or.inl rfl) (pe_slice sl_list (pv 0) po_none (po_some pe_int)))
    (pss_cons (ps_set (i := 1) scLaw.nd rfl (Or.inl rfl) (pe_call GD.ok hr2 rfl GD.mg GD.kp GD.bd .nil pass0 (pa_cons (pe_slice sl_list (pv 0) po_none (po_some (pe_call GP.ok hr1 rfl GP.mg GP.kp GP.bd .nil pass0 (pa_cons (pv 0) (pa_cons pe_int (pa_cons pe_int pa_nil)))))) pa_nil)))
    (pss_cons (ps_set (i := 2) scLaw.nd rfl (Or.inl rfl) (pe_callTy call_list_of rfl mli PyProof.Rows.boot_list (pa_cons (pv 1) pa_nil)))
    (pss_cons (ps_set (i := 3) scLaw.nd rfl (Or.inl rfl) (pe_call GA.ok hr7 rfl GA.mg GA.kp GA.bd .nil pass0 (pa_cons (pv 2) pa_nil)))
    (pss_cons (ps_set (i := 4) scLaw.nd rfl (Or.inl rfl) (pe_make0 mk GI hr2 rfl mB bI .nil pass0))
    (pss_cons (ps_set (i := 5) scLaw.nd rfl (Or.inl rfl) (pe_make0 mk GI hr2 rfl mB bI .nil pass0))
    (pss_cons (ps_if (pt_not (pt_val (pe_call GAl.ok hr2 rfl GAl.mg GAl.kp GAl.bd .nil pass0 (pa_cons (pe_meth (pv 5) cl.cls GF.mt GF.ok hr5 GF.bd .nil pass0 (pa_cons (pe_tup (pa_cons pe_int (pa_cons (pe_lst (pa_cons (pe_tup (pa_cons pe_int (pa_cons pe_int pa_nil))) pa_nil)) pa_nil))) pa_nil)) (pa_cons (pe_tup (pa_cons pe_int (pa_cons pe_int pa_nil))) pa_nil))))) pss_never pss_nil)
    (pss_cons (ps_if (PW.pt (pw_or (pt_not (pt_val (pe_callB call_isi rfl mi boot_isinstance (pa_cons (pv 3) (pa_cons (pe_bltn (v := .ty "list") rfl mli PyProof.Rows.boot_list rfl) pa_nil)))))
      (pw_or1 (pt_cmpR op_ne (pe_callB call_len_seq rfl ml PySem.boot_len (pa_cons (pv 3) pa_nil)) (pe_callB call_len_seq rfl ml PySem.boot_len (pa_cons (pv 1) pa_nil)) (nomark _))))) pss_never pss_nil)
    (pss_cons (ps_set (i := 6) scLaw.nd rfl (Or.inl rfl) (pe_lst pa_nil))
    (pss_cons (ps_set (i := 7) scLaw.nd rfl (Or.inl rfl) (pe_lst pa_nil))
    (pss_cons (ps_for PassesOwn.never rfl (pi_range1 rfl mr (pa_cons (pe_callB call_len_seq rfl ml PySem.boot_len (pa_cons (pv 1) pa_nil)) pa_nil)) (pg_name (i := 8) scLaw.nd rfl (Or.inl rfl))
      (pss_cons (ps_set (i := 9) scLaw.nd rfl (Or.inl rfl) (pe_call GDu.ok hr rfl GDu.mg GDu.kp GDu.bd .nil pass0 (pa_cons (pv 6) (pa_cons (pv 7) (pa_cons (pe_ix ix_list (pv 1) (pv 8) (fun _ _ => rfl)) pa_nil)))))
      (pss_cons (ps_set (i := 10) scLaw.nd rfl (Or.inl rfl) (pe_call GTo.ok hr6 rfl GTo.mg GTo.kp GTo.bd .nil pass0 (pa_cons (pv 4) (pa_cons (pe_ix ix_list (pv 1) (pv 8) (fun _ _ => rfl)) pa_nil))))
      (pss_one (ps_if (PW.pt (pw_or (pt_not (pt_val (pe_call GAl.ok hr2 rfl GAl.mg GAl.kp GAl.bd .nil pass0 (pa_cons (pe_ix ix_list (pv 3) (pv 8) (fun _ _ => rfl)) (pa_cons (pv 9) pa_nil)))))
        (pw_or1 (pt_not (pt_val (pe_call GH.ok hr3 rfl GH.mg GH.kp GH.bd .nil pass0 (pa_cons (pv 10) (pa_cons (pv 9) pa_nil)))))))) pss_never pss_nil)))))
    (pss_cons (ps_if (pt_not (pt_val (pe_call GAl.ok hr2 rfl GAl.mg GAl.kp GAl.bd .nil pass0 (pa_cons (pe_meth (pv 5) cl.cls GR.mt GR.ok hr4 GR.bd .nil pass0 (pa_cons (pe_lst (pa_cons pe_int (pa_cons pe_non pa_nil))) pa_nil)) (pa_cons (pe_tup (pa_cons pe_int (pa_cons pe_int pa_nil))) pa_nil))))) pss_never pss_nil)
    (pss_one (ps_ret (pe_and (pe_call GAl.ok hr2 rfl GAl.mg GAl.kp GAl.bd .nil pass0 (pa_cons (pe_meth (pv 5) cl.cls GK.mt GK.ok hr1 GK.bd .nil pass0 (pa_cons pe_int pa_nil)) (pa_cons pe_str pa_nil))) (pe_one (pe_call GL.ok hr1 rfl GL.mg GL.kp GL.bd .nil pass0 (pa_cons (pv 2) (pa_cons (pv 1) pa_nil)))))))))))))))))), ?_⟩
  refine cutS fun N hN => ?_; refine ⟨_, rfl, _, rfl, a, _, rfl, hS, fun p1 hp1 => hN _ _ ?_⟩; have e1 : cutV (ns.map V.int) none (some (99 : Int)) = (ns.take 99).map V.int := (cutTake _ 99).trans List.map_take.symm; rw [e1]; generalize hms : ns.take 99 = ms; have hn0 : ms.length <= 63 := by rw [<- hms, List.length_take]; omega
  have hn1 : (ms.map V.int).length <= 63 := by rw [List.length_map]; exact hn0
  refine cutS fun N hN => ?_; refine ⟨_, rfl, _, rfl, p1, _, 60, 99, rfl, SqL.of upd_same, hn1, fun H2 s2 => ?_⟩; have ep1 := s2 _ _ (show (upd H p1 (.lst (ms.map V.int))) p1 = _ from upd_same)
  refine ⟨_, rfl, p1, _, rfl, SqL.of ep1, fun p2 hp2 => ?_⟩; have e2 : cutV (ms.map V.int) none (some (60 : Int)) = (ms.take 60).map V.int := (cutTake _ 60).trans List.map_take.symm; rw [e2]; refine ⟨p2, ms.take 60, rfl, upd_same, by rw [List.length_take]; omega, fun l rs ds H3 s3 G hdl hd0 => hN _ _ ?_⟩
  clear s2 s3 ep1; refine cutS fun N hN => ?_; refine ⟨_, rfl, l, _, rfl, .inl (SqL.of G.top), fun hl hhl => hN _ _ ?_⟩; have s4 := same_new hhl (.lst (rs.map V.ref)); have eh4 : (upd H3 hl (.lst (rs.map V.ref))) hl = some (.lst (rs.map V.ref)) := upd_same; generalize upd H3 hl (.lst (rs.map V.ref)) = H4 at s4 eh4; have G4 := G.up s4; refine cutS fun N hN => ?_; refine ⟨_, rfl, hl, rs, ds, rfl, ⟨eh4, G4.len, G4.each⟩, by omega, fun pf ys H5 s5 epf hyl hans => hN _ _ ?_⟩
  have G5 := G4.up s5; have eh5 := s5 _ _ eh4; have hdd := G5.hd; clear s4 s5 G G4 eh4
  -- the first book
  refine cutS fun N hN => ?_; intro b dx hb hdx hbd; have sb : Same H5 (upd (upd H5 dx (.own b)) b (.ins C dx [])) := (same_new hdx _).trans (same_new (by rw [upd_ne (Ne.symm hbd)]; exact hb) _)
  refine ⟨b, dx, rfl, upd_same, fun dn lf lc H6 sx6 g1 g2 g3 B6 => ⟨rfl, hN _ _ ?_⟩⟩; have s6 : Same H5 H6 := fun a o h => sx6 a o (by rw [List.mem_singleton]; exact ne_of_none h hb) (sb a o h)
  have n1 := sb.free g1; have n2 := sb.free g2; have n3 := sb.free g3; clear sx6 g1 g2 g3 sb
  -- the second
  refine cutS fun N hN => ?_; intro b2 dx2 hb2 hdx2 hbd2; have sb : Same H6 (upd (upd H6 dx2 (.own b2)) b2 (.ins C dx2 [])) := (same_new hdx2 _).trans (same_new (by rw [upd_ne (Ne.symm hbd2)]; exact hb2) _)
  refine ⟨b2, dx2, rfl, upd_same, fun dn2 lf2 lc2 H7 sx7 g1 g2 g3 B7 => ⟨rfl, hN _ _ ?_⟩⟩; have s7 : Same H6 H7 := fun a o h => sx7 a o (by rw [List.mem_singleton]; exact ne_of_none h hb2) (sb a o h)
  have k1 := sb.free g1; have k2 := sb.free g2; have k3 := sb.free g3; clear sx7 g1 g2 g3 sb; have B67 := B6.up s7
  -- a line
  obtain ⟨dxx2, hob2⟩ := B7.ob; refine cutS fun N hN => ?_; refine ⟨_, rfl, b2, dxx2, _, rfl, hob2, lk0 (by decide +kernel) (by decide +kernel) (by decide +kernel), (by show 2 <= sizeLine; decide), fun u0 hu0 => ⟨(by show 1 <= sizeLine; decide), fun L0 hL0 => ⟨(by show 2 <= sizeLine; decide), fun t0 ht0 => ?_⟩⟩⟩
  have s8 : Same H7 (upd (upd (upd H7 u0 (.tup [V.int 0, V.int 1])) L0 (.lst [V.ref u0])) t0 (.tup [V.int 2, V.ref L0])) := (same_new hu0 _).trans ((same_new hL0 _).trans (same_new ht0 _))
  have T8 : TreeAt (upd (upd (upd H7 u0 (.tup [V.int 0, V.int 1])) L0 (.lst [V.ref u0])) t0 (.tup [V.int 2, V.ref L0])) t0 L0 [u0] ((2 : Nat) : Int) (toL [(0, 1)]) := by
    refine ⟨upd_same, ⟨(same_new ht0 _) _ _ upd_same, rfl, fun j a ys h1 h2 => ?_, fun ys h => ?_⟩⟩
    . match j, h1, h2 with
      | 0, h1, h2 =>
        cases h1
        cases h2
        exact ((same_new hL0 _).trans (same_new ht0 _)) _ _ upd_same
    . rw [List.mem_singleton.mp h]
      exact flat_vP (0, 1)
  generalize upd (upd (upd H7 u0 (.tup [V.int 0, V.int 1])) L0 (.lst [V.ref u0])) t0 (.tup [V.int 2, V.ref L0]) = H8 at s8 T8; refine ⟨b2, dn2, lf2, lc2, ([], []), _, ff 2 [(0, 1)], rfl, B7.up s8, by decide, ⟨t0, L0, [u0], _, _, rfl, T8, ⟨2, [(0, 1)], rfl, rfl, two_free, by decide, by decide, rfl⟩⟩, fun p9 H9 sx9 B9 ep9 => ?_⟩
  have hd7 : ∀ x ∈ [dn2, lf2, lc2], H6 x = none := all3 k1 k2 k3; have B79 : SameX [dn2, lf2, lc2] H6 H9 := (Same.x (s7.trans s8) _).trans sx9; have s69 : Same H6 H9 := SameX.base (Same.refl _) B79 hd7; have s59 := s6.trans s69; have o9 := B6.up s69; clear sx9 s8 T8 s7 B7 B79 B67 hob2; refine ⟨(by show 2 <= sizeLine; decide), fun q9 hq9 => ?_⟩
  have s10 := same_new hq9 (.tup [V.int 0, V.int 1]); have eq10 : (upd H9 q9 (.tup [V.int 0, V.int 1])) q9 = some (.tup [vN 0, vN 1]) := upd_same; generalize upd H9 q9 (.tup [V.int 0, V.int 1]) = H10 at s10 eq10; rw [book_n] at ep9; have ep10 := s10 _ _ ep9; refine ⟨_, _, .pr 0 1, rfl, ⟨p9, rfl, ep10⟩, ⟨q9, rfl, eq10⟩, fun H11 s11 => ⟨_, rfl, iteF (hN _ _ ?_)⟩⟩; rw [book_1] at B9; have s9 := s10.trans s11; have B11 := B9.up s9; have o11 := o9.up s9; have s5b := s59.trans s9; have hlr : (rs.map V.ref).length = ds.length := by rw [List.length_map, G5.len]
  clear s10 s11 s9 B9 o9 ep9 ep10 eq10 s69; refine cutS fun N hN => ?_; refine ⟨_, rfl, _, _, _, _, rfl, TyOf.lst (s5b _ _ epf), kitList K, _, rfl, iteF ?_⟩; refine ⟨_, rfl, pf, _, rfl, .inl (SqL.of (s5b _ _ epf)), _, rfl, l, _, rfl, .inl (SqL.of (s5b _ _ G5.top)), rfl, _, rfl, iteNS (by rw [hyl, hlr]) (hN _ _ ?_)⟩
  refine cutS fun N hN => ?_; refine ⟨(by show 0 <= sizeLine; decide), fun kl hkl => hN _ _ ?_⟩
  have s12 := same_new hkl (.lst []); have ek12 : (upd H11 kl (.lst [])) kl = some (.lst []) := upd_same; generalize upd H11 kl (.lst []) = H12 at s12 ek12; refine cutS fun N hN => ?_; refine ⟨(by show 0 <= sizeLine; decide), fun tl htl => hN _ _ ?_⟩
  have s13 := same_new htl (.lst []); have et13 : (upd H12 tl (.lst [])) tl = some (.lst []) := upd_same; have ek13 := s13 _ _ ek12; generalize upd H12 tl (.lst []) = H13 at s13 et13 ek13; have s5c := s5b.trans (s12.trans s13)
  have Ap : Apart H5 dn lf lc dn2 lf2 lc2 kl tl := by
    have out : ∀ {b dn lf lc : Addr} {s : Sb}, BookAt C H11 b dn lf lc s -> ∀ x ∈ [dn, lf, lc], x ∉ [kl, tl] := fun B x hx => by
      obtain ⟨o, ho⟩ := bk_some B x hx; exact nin2 (ne_of_none ho hkl) (ne_of_none (s12 _ _ ho) htl)
    refine ⟨all3 n1 n2 n3, s5b.free hkl, (s5b.trans s12).free htl, out o11, out B11, fun x hx z => ?_, ne_of_none ek12 htl⟩; obtain ⟨o, ho⟩ := bk_some B6 x z; rw [hd7 x hx] at ho
    cases ho
  refine cutS fun N hN => ?_; refine ⟨_, rfl, l, _, rfl, .inl (SqL.of (s5c _ _ G5.top)), _, rfl, by omega, by omega, ?_⟩
  rw [show (((rs.map V.ref).length : Nat) : Int).toNat = ds.length by omega]
  refine for_rangeN (lo := 0) (n := ds.length) (fun i σ H' => (∃ o0 o8 o9 o10, σ = [o0, some (.ref l), some (.ref hl), some (.ref pf), some (.ref b), some (.ref b2), some (.ref kl), some (.ref tl), o8, o9, o10]) /\ LawAt C H5 H' b dn lf lc b2 dn2 lf2 lc2 kl tl (sAt ds i) ([(false, ff 2 [(0, 1)])], [1]))
    ⟨⟨_, _, _, _, rfl⟩, s5c, by rw [sAt_zero]; exact o11.up (s12.trans s13), B11.up (s12.trans s13), by rw [sAt_zero]; exact ⟨[], ek13, rfl, fun j c ys h => (nomatch h), fun ys h => (nomatch h)⟩, by rw [sAt_zero]; exact et13⟩ ?_ ?_
  . rintro i σ H' hi p_ M hM
    refine hld fun g_ k_ => ?_; obtain ⟨⟨o0, o8, o9, o10, rfl⟩, L⟩ := p_; refine k_ ?_; have hdi : ds[i]? = some ds[i] := List.getElem?_eq_getElem hi; have hir : i < rs.length := by rw [G5.len]; exact hi
    have hti : rs[i]? = some rs[i] := List.getElem?_eq_getElem hir; have hyi : ys[i]? = some (ys[i]'(by omega)) := List.getElem?_eq_getElem (by omega)
    have hdt := G5.each i _ _ hti hdi; have hv0 := hans i _ _ hyi hdi; have hok := sOk_at hdd i (Nat.le_of_lt hi); have hle : (sAt ds i).1.length <= 100 := by have := hok.le; omega
    have hA := hok.ans ds[i]; generalize ys[i]'(by omega) = v0 at hyi hv0
    generalize rs[i] = t at hti hdt; generalize ds[i] = d at hdi hdt hv0 hA; obtain ⟨rsk, Gk⟩ := L.kd; rw [Int.zero_add]; refine cutS fun N1 hN1 => ?_; refine ⟨_, rfl, _, rfl, _, rfl, _, rfl, l, _, _, _, rfl, rfl, SqL.of (L.same _ _ G5.top), at_map (f := V.ref) hti, kl, tl, t, rsk, sAt ds i, d, rfl, Gk, L.tm, Ap.kt, hok.len, hle, hdt.up L.same, fun v1 rs1 H14 sx14 G14 t14 hv1 => hN1 _ _ ?_⟩; obtain ⟨s14, B14, B14'⟩ := L.due Ap sx14; refine cutS fun N1 hN1 => ?_; refine ⟨_, rfl, _, rfl, _, rfl, l, _, _, _, rfl, rfl, SqL.of (s14 _ _ G5.top), at_map (f := V.ref) hti, b, dn, lf, lc, t, _, d, rfl, B14, hle, hdt.up s14, fun v2 H15 sx15 B15 hv2 => hN1 _ _ ?_⟩; refine hld fun g_ k_ => ?_; obtain ⟨s15, B15', G15, t15⟩ := told_keeps Ap s14 B14 B14' G14 t14 sx15; refine k_ ?_; have hv1 := hv1.up fun p xs h => sx15 _ _ (B14.tup h) h; refine ⟨_, rfl, _, rfl, pf, _, _, _, rfl, rfl, SqL.of (s15 _ _ epf), atI_nat hyi, _, rfl, v0, v1, _, rfl, hv0.up (fun p xs h => s15 _ _ h), hv1, fun H16 s16 => ⟨_, rfl, iteF ?_⟩⟩; refine ⟨_, rfl, _, rfl, v2, v1, _, rfl, hv2.up (fun p xs h => s16 _ _ h), hv1.up (fun p xs h => s16 _ _ h), hA, fun H17 s17 => ⟨_, rfl, iteF (hM _ _ ?_)⟩⟩; have s67 := s16.trans s17; refine ⟨⟨_, _, _, _, rfl⟩, s15.trans s67, ?_, B15'.up s67, ?_, ?_⟩
    . rw [sAt_succ hdi]; exact B15.up s67
    . rw [sAt_succ hdi]; exact ⟨rs1, G15.up s67⟩
    . rw [sAt_succ hdi]; exact s67 _ _ t15
  . rintro σ H' p_
    refine hld fun g_ k_ => ?_; obtain ⟨⟨o0, o8, o9, o10, rfl⟩, L⟩ := p_; refine k_ ?_; refine hN _ _ ?_; obtain ⟨dx3, hob3⟩ := L.two.ob; refine cutS fun N hN => ?_; refine ⟨_, rfl, b2, dx3, _, rfl, hob3, lk0 (by decide +kernel) (by decide +kernel) (by decide +kernel), (by show 2 <= sizeLine; decide), fun a1 ha1 => ?_⟩
    have s14 := same_new ha1 (.lst [V.int 1, V.non]); have ea : (upd H' a1 (.lst [V.int 1, V.non])) a1 = some (.lst (([some 1, none] : AI).map vI)) := upd_same; generalize upd H' a1 (.lst [V.int 1, V.non]) = H14 at s14 ea; have B14 := L.two.up s14; have s14 := L.same.trans s14; refine ⟨b2, dn2, lf2, lc2, _, _, fm [some 1, none] 1, rfl, B14, by show 1 <= 100; decide, ⟨a1, [some 1, none], rfl, ea, ⟨[some 1, none], 1, _, rfl, two_tree, fun z => Bool.noConfusion z, by decide, rfl⟩⟩, fun p15 H15 sx15 B15 ep15 => ?_⟩
    have hn2 : ∀ x ∈ [dn2, lf2, lc2], H5 x = none := fun x hx => s6.free (hd7 x hx); have s15 := SameX.base s14 sx15 hn2; rw [book_m] at ep15; rw [book_2] at B15; refine ⟨(by show 2 <= sizeLine; decide), fun q16 hq16 => ?_⟩
    have s16 := same_new hq16 (.tup [V.int 1, V.int 1]); have eq16 : (upd H15 q16 (.tup [V.int 1, V.int 1])) q16 = some (.tup [vN 1, vN 1]) := upd_same; generalize upd H15 q16 (.tup [V.int 1, V.int 1]) = H16 at s16 eq16; refine ⟨_, _, .pr 1 1, rfl, ⟨p15, rfl, s16 _ _ ep15⟩, ⟨q16, rfl, eq16⟩, fun H17 s17 => ⟨_, rfl, iteF (hN _ _ ?_)⟩⟩; have B17 := B15.up (s16.trans s17); have s17 := s15.trans (s16.trans s17); obtain ⟨dx4, hob4⟩ := B17.ob; refine ⟨_, rfl, b2, dx4, _, rfl, hob4, lk0 (by decide +kernel) (by decide +kernel) (by decide +kernel), b2, dn2, lf2, lc2, _, 0, rfl, B17, by show 2 <= 100; decide, by show 0 < 2; decide, fun H18 s18 => ?_⟩
    refine ⟨_, _, .tx (ff 2 [(0, 1)]), rfl, rfl, ?_, fun H19 s19 => ⟨_, rfl, iteT ?_⟩⟩
    . show V.str _ = vT (ff 2 [(0, 1)])
      rw [two_ff, bookS]
      rfl
    have s19 := s17.trans (s18.trans s19); obtain ⟨m, hm, hN⟩ := (G5.up s19).nst (by omega)
    exact ⟨_, rfl, _, rfl, hl, l, _, m, rfl, s19 _ _ eh5, s19 _ _ G5.top, hN, hm, fun H20 _ => q H20⟩
end
end K13
namespace K13
open PySem L2 KM KD PyProof.Rows
theorem all_mk {l : PySem.W.OpenLaw} {w : World} {K : PySem.W.Frag} {h : Heap} {mg : Str -> Option Value} {fa f1 f2 f3 f4 f5 f6 f7 f8 f9 f10 f11 f12 f13 f14 f15 f16 f17 f18 f19 f20 f21 f22 f23 f24 f25 f26 f27 f28 f29 f30 f31 f32 f33 CTreeError CNoTree CNoForm CNoKind CBook : Addr} (X : K.In h) (G : h.Ns mainGlobals mg) (hfa : mg "law" = some (.ref fa))
    {od1 an1 od2 an2 od3 an3 od4 an4 od5 an5 od6 an6 od7 an7 od8 an8 od9 an9 od10 an10 od11 an11 od12 an12 od13 an13 od14 an14 od15 an15 od16 an16 od17 an17 od18 an18 od19 an19 od20 an20 od21 an21 od22 an22 od23 an23 od24 an24 od25 an25 od26 an26 od27 an27 od28 an28 od29 an29 od30 an30 od31 an31 od32 an32 od33 an33 : Option Addr} {sl1 sl2 sl3 sl4 sl5 sl6 sl7 sl8 sl9 sl10 sl11 sl12 sl13 sl14 sl15 sl16 sl17 sl18 sl19 sl20 sl21 sl22 sl23 sl24 sl25 sl26 sl27 sl28 sl29 sl30 sl31 sl32 sl33 : Array (Option Value)} {oc1 kV1 dc1 pm1 cd1 ct1 oc2 kV2 dc2 pm2 cd2 ct2 oc3 kV3 dc3 pm3 cd3 ct3 oc4 kV4 dc4 pm4 cd4 ct4 oc5 kV5 dc5 pm5 cd5 ct5 oc6 kV6 dc6 pm6 cd6 ct6 oc7 kV7 dc7 pm7 cd7 ct7 oc8 kV8 dc8 pm8 cd8 ct8 oc9 kV9 dc9 pm9 cd9 ct9 oc10 kV10 dc10 pm10 cd10 ct10 oc11 kV11 dc11 pm11 cd11 ct11 oc12 kV12 dc12 pm12 cd12 ct12 oc13 kV13 dc13 pm13 cd13 ct13 oc14 kV14 dc14 pm14 cd14 ct14 oc15 kV15 dc15 pm15 cd15 ct15 oc16 kV16 dc16 pm16 cd16 ct16 oc17 kV17 dc17 pm17 cd17 ct17 oc18 kV18 dc18 pm18 cd18 ct18 oc19 kV19 dc19 pm19 cd19 ct19 oc20 kV20 dc20 pm20 cd20 ct20 oc21 kV21 dc21 pm21 cd21 ct21 oc22 kV22 dc22 pm22 cd22 ct22 oc23 kV23 dc23 pm23 cd23 ct23 oc24 kV24 dc24 pm24 cd24 ct24 oc25 kV25 dc25 pm25 cd25 ct25 oc26 kV26 dc26 pm26 cd26 ct26 oc27 kV27 dc27 pm27 cd27 ct27 oc28 kV28 dc28 pm28 cd28 ct28 oc29 kV29 dc29 pm29 cd29 ct29 oc30 kV30 dc30 pm30 cd30 ct30 oc31 kV31 dc31 pm31 cd31 ct31 oc32 kV32 dc32 pm32 cd32 ct32 oc33 kV33 dc33 pm33 cd33 ct33 : Value}
    {dT2 : Addr} {tC2 : Value} {tD2 : Option Addr} {tN2 : Nat} {tS2 : Array (Option Value)}
    {mf0 : Addr} {mod0 man0 : Option Addr} {msl0 : Array (Option Value)} {moc0 mkV0 mdc0 mpm0 mcd0 mct0 : Value}
    {mf1 : Addr} {mod1 man1 : Option Addr} {msl1 : Array (Option Value)} {moc1 mkV1 mdc1 mpm1 mcd1 mct1 : Value}
    {mf2 : Addr} {mod2 man2 : Option Addr} {msl2 : Array (Option Value)} {moc2 mkV2 mdc2 mpm2 mcd2 mct2 : Value}
    {mf3 : Addr} {mod3 man3 : Option Addr} {msl3 : Array (Option Value)} {moc3 mkV3 mdc3 mpm3 mcd3 mct3 : Value}
    {mf4 : Addr} {mod4 man4 : Option Addr} {msl4 : Array (Option Value)} {moc4 mkV4 mdc4 mpm4 mcd4 mct4 : Value}
    {tkMARK : Tok}
    (qTreeError : PySem.W.nsIn K mainGlobals "TreeError" = some (some (.ref CTreeError)))
    (qNoTree : PySem.W.nsIn K mainGlobals "NoTree" = some (some (.ref CNoTree)))
    (qNoForm : PySem.W.nsIn K mainGlobals "NoForm" = some (some (.ref CNoForm)))
    (qNoKind : PySem.W.nsIn K mainGlobals "NoKind" = some (some (.ref CNoKind)))
    (qBook : PySem.W.nsIn K mainGlobals "Book" = some (some (.ref CBook)))
    (qMARK : PySem.W.nsIn K mainGlobals "MARK" = some (some (.str (Str.ofString "*") tkMARK)))
    (nt1 : PySem.W.excIn K CNoTree [.type "ValueError", .type "Exception", .type "BaseException", .type "object"] "ValueError.__new__" = true)
    (nt2 : PySem.W.findIn K (.ref CNoTree) "__getattribute__" = some (some (.builtin "BaseException.__getattribute__")))
    (nt3 : PySem.W.findIn K (.ref CNoTree) "__getattr__" = some none)
    (nt4 : PySem.W.hasDictIn K CNoTree = true)
    (nt5 : PySem.W.findIn K (.ref CNoTree) "__class__" = some (some (.builtin "object.__class__")))
    (nt6 : PySem.W.specialIn K (.builtin "object.__class__") "__get__" = some (some (.builtin "getset_descriptor.__get__")))
    (nt7 : PySem.W.takesIn K (.builtin "object.__class__") = some true)
    (nt8 : PySem.W.mroIn K CNoTree (.type "object") = some true)
    (nt9 : PySem.W.mroIn K CNoTree (.type "BaseException") = some true)
    (nk1 : PySem.W.excIn K CNoKind [.type "ValueError", .type "Exception", .type "BaseException", .type "object"] "ValueError.__new__" = true)
    (nk2 : PySem.W.findIn K (.ref CNoKind) "__getattribute__" = some (some (.builtin "BaseException.__getattribute__")))
    (nk3 : PySem.W.findIn K (.ref CNoKind) "__getattr__" = some none)
    (nk4 : PySem.W.hasDictIn K CNoKind = true)
    (nk5 : PySem.W.findIn K (.ref CNoKind) "__class__" = some (some (.builtin "object.__class__")))
    (nk6 : PySem.W.specialIn K (.builtin "object.__class__") "__get__" = some (some (.builtin "getset_descriptor.__get__")))
    (nk7 : PySem.W.takesIn K (.builtin "object.__class__") = some true)
    (nk8 : PySem.W.mroIn K CNoKind (.type "object") = some true)
    (nk9 : PySem.W.mroIn K CNoKind (.type "BaseException") = some true)
    (y1 : PySem.W.exmOne K (.ref CNoTree) (.ref CNoTree) = some true)
    (y2 : PySem.W.exmOne K (.ref CNoKind) (.ref CNoTree) = some false)
    (y3 : PySem.W.exmOne K (.ref CNoKind) (.ref CNoKind) = some true)
    (y4 : PySem.W.exmOne K (.ref CNoTree) (.ref CTreeError) = some true)
    (y5 : PySem.W.exmOne K (.ref CNoKind) (.ref CTreeError) = some true)
    (y6 : PySem.W.kitOne K (.ref CNoTree) (.ref CNoKind) = some false)
    (y7 : PySem.W.kitOne K (.ref CNoKind) (.ref CNoTree) = some false)
    (y8 : PySem.W.kitOne K (.ref CNoTree) (.ref CNoForm) = some false)
    (y9 : PySem.W.kitOne K (.ref CNoKind) (.ref CNoForm) = some false)
    (y10 : PySem.W.kitOne K (.ref CNoTree) (.type "ValueError") = some true)
    (y11 : PySem.W.kitOne K (.ref CNoKind) (.type "ValueError") = some true)
    (bc1 : PySem.W.plainGet K CBook Str.empty = true)
    (bc2 : PySem.W.hasDictIn K CBook = true)
    (bc3 : PySem.W.plainOver K CBook = true)
    (bc4 : PySem.W.findIn K (.ref CBook) "__setattr__" = some (some (.builtin "object.__setattr__")))
    (bc5 : PySem.W.makesIn K CBook = true)
    (bc6 : PySem.W.keepIn K (.ref CBook) = true)
    (bc7 : PySem.W.findIn K (.ref CBook) "numbers" = some none)
    (bc8 : PySem.W.findIn K (.ref CBook) "forms" = some none)
    (bc9 : PySem.W.findIn K (.ref CBook) "counts" = some none)
    (ma0 : PySem.W.findIn K (.ref CBook) "__init__" = some (some (.ref mf0))) (ml0 : K.lookup mf0 = some ⟨moc0, mod0, .func (PySem.W.fnOf "__init__" "Book.__init__" (defArgs sMInit) (defBody sMInit) (defScope sMInit) .none mkV0 mdc0 mpm0 man0 mcd0 mct0), msl0⟩) (mc0 : PySem.W.codeIn K mcd0 "Book.__init__" = true) (mk0 : PySem.W.keepIn K (.ref mf0) = true) (mi0 : PySem.W.isFn K (.ref mf0) = true)
    (ma1 : PySem.W.findIn K (.ref CBook) "rooted" = some (some (.ref mf1))) (ml1 : K.lookup mf1 = some ⟨moc1, mod1, .func (PySem.W.fnOf "rooted" "Book.rooted" (defArgs sMRooted) (defBody sMRooted) (defScope sMRooted) .none mkV1 mdc1 mpm1 man1 mcd1 mct1), msl1⟩) (mc1 : PySem.W.codeIn K mcd1 "Book.rooted" = true) (mk1 : PySem.W.keepIn K (.ref mf1) = true) (mi1 : PySem.W.isFn K (.ref mf1) = true)
    (ma2 : PySem.W.findIn K (.ref CBook) "free" = some (some (.ref mf2))) (ml2 : K.lookup mf2 = some ⟨moc2, mod2, .func (PySem.W.fnOf "free" "Book.free" (defArgs sMFree) (defBody sMFree) (defScope sMFree) .none mkV2 mdc2 mpm2 man2 mcd2 mct2), msl2⟩) (mc2 : PySem.W.codeIn K mcd2 "Book.free" = true) (mk2 : PySem.W.keepIn K (.ref mf2) = true) (mi2 : PySem.W.isFn K (.ref mf2) = true)
    (ma3 : PySem.W.findIn K (.ref CBook) "form" = some (some (.ref mf3))) (ml3 : K.lookup mf3 = some ⟨moc3, mod3, .func (PySem.W.fnOf "form" "Book.form" (defArgs sMForm) (defBody sMForm) (defScope sMForm) .none mkV3 mdc3 mpm3 man3 mcd3 mct3), msl3⟩) (mc3 : PySem.W.codeIn K mcd3 "Book.form" = true) (mk3 : PySem.W.keepIn K (.ref mf3) = true) (mi3 : PySem.W.isFn K (.ref mf3) = true)
    (ma4 : PySem.W.findIn K (.ref CBook) "one_more" = some (some (.ref mf4))) (ml4 : K.lookup mf4 = some ⟨moc4, mod4, .func (PySem.W.fnOf "one_more" "Book.one_more" (defArgs sMOneMore) (defBody sMOneMore) (defScope sMOneMore) .none mkV4 mdc4 mpm4 man4 mcd4 mct4), msl4⟩) (mc4 : PySem.W.codeIn K mcd4 "Book.one_more" = true) (mk4 : PySem.W.keepIn K (.ref mf4) = true) (mi4 : PySem.W.isFn K (.ref mf4) = true)
    (a1 : PySem.W.nsIn K mainGlobals "form_of" = some (some (.ref f1))) (l1 : K.lookup f1 = some ⟨oc1, od1, .func (PySem.W.fnOf "form_of" "form_of" (defArgs sForm) (defBody sForm) (defScope sForm) .none kV1 dc1 pm1 an1 cd1 ct1), sl1⟩) (c1 : PySem.W.codeIn K cd1 "form_of" = true) (k1 : PySem.W.keepIn K (.ref f1) = true)
    (a2 : PySem.W.nsIn K mainGlobals "knot_forms" = some (some (.ref f2))) (l2 : K.lookup f2 = some ⟨oc2, od2, .func (PySem.W.fnOf "knot_forms" "knot_forms" (defArgs sKnotForms) (defBody sKnotForms) (defScope sKnotForms) (.ref dT2) kV2 dc2 pm2 an2 cd2 ct2), sl2⟩) (c2 : PySem.W.codeIn K cd2 "knot_forms" = true) (k2 : PySem.W.keepIn K (.ref f2) = true) (t2 : K.lookup dT2 = some ⟨tC2, tD2, .seq #[.none] tN2, tS2⟩)
    (a3 : PySem.W.nsIn K mainGlobals "form_over" = some (some (.ref f3))) (l3 : K.lookup f3 = some ⟨oc3, od3, .func (PySem.W.fnOf "form_over" "form_over" (defArgs sOver) (defBody sOver) (defScope sOver) .none kV3 dc3 pm3 an3 cd3 ct3), sl3⟩) (c3 : PySem.W.codeIn K cd3 "form_over" = true) (k3 : PySem.W.keepIn K (.ref f3) = true)
    (a4 : PySem.W.nsIn K mainGlobals "root_of" = some (some (.ref f4))) (l4 : K.lookup f4 = some ⟨oc4, od4, .func (PySem.W.fnOf "root_of" "root_of" (defArgs sRoot) (defBody sRoot) (defScope sRoot) .none kV4 dc4 pm4 an4 cd4 ct4), sl4⟩) (c4 : PySem.W.codeIn K cd4 "root_of" = true) (k4 : PySem.W.keepIn K (.ref f4) = true)
    (a5 : PySem.W.nsIn K mainGlobals "knots_under" = some (some (.ref f5))) (l5 : K.lookup f5 = some ⟨oc5, od5, .func (PySem.W.fnOf "knots_under" "knots_under" (defArgs sUnder) (defBody sUnder) (defScope sUnder) .none kV5 dc5 pm5 an5 cd5 ct5), sl5⟩) (c5 : PySem.W.codeIn K cd5 "knots_under" = true) (k5 : PySem.W.keepIn K (.ref f5) = true)
    (a6 : PySem.W.nsIn K mainGlobals "downward" = some (some (.ref f6))) (l6 : K.lookup f6 = some ⟨oc6, od6, .func (PySem.W.fnOf "downward" "downward" (defArgs sDown) (defBody sDown) (defScope sDown) .none kV6 dc6 pm6 an6 cd6 ct6), sl6⟩) (c6 : PySem.W.codeIn K cd6 "downward" = true) (k6 : PySem.W.keepIn K (.ref f6) = true)
    (a7 : PySem.W.nsIn K mainGlobals "middles" = some (some (.ref f7))) (l7 : K.lookup f7 = some ⟨oc7, od7, .func (PySem.W.fnOf "middles" "middles" (defArgs sMiddles) (defBody sMiddles) (defScope sMiddles) .none kV7 dc7 pm7 an7 cd7 ct7), sl7⟩) (c7 : PySem.W.codeIn K cd7 "middles" = true) (k7 : PySem.W.keepIn K (.ref f7) = true)
    (a8 : PySem.W.nsIn K mainGlobals "rooted_at" = some (some (.ref f8))) (l8 : K.lookup f8 = some ⟨oc8, od8, .func (PySem.W.fnOf "rooted_at" "rooted_at" (defArgs sRootedAt) (defBody sRootedAt) (defScope sRootedAt) .none kV8 dc8 pm8 an8 cd8 ct8), sl8⟩) (c8 : PySem.W.codeIn K cd8 "rooted_at" = true) (k8 : PySem.W.keepIn K (.ref f8) = true)
    (a9 : PySem.W.nsIn K mainGlobals "free_form" = some (some (.ref f9))) (l9 : K.lookup f9 = some ⟨oc9, od9, .func (PySem.W.fnOf "free_form" "free_form" (defArgs sFreeForm) (defBody sFreeForm) (defScope sFreeForm) .none kV9 dc9 pm9 an9 cd9 ct9), sl9⟩) (c9 : PySem.W.codeIn K cd9 "free_form" = true) (k9 : PySem.W.keepIn K (.ref f9) = true)
    (a10 : PySem.W.nsIn K mainGlobals "farness" = some (some (.ref f10))) (l10 : K.lookup f10 = some ⟨oc10, od10, .func (PySem.W.fnOf "farness" "farness" (defArgs sFarness) (defBody sFarness) (defScope sFarness) .none kV10 dc10 pm10 an10 cd10 ct10), sl10⟩) (c10 : PySem.W.codeIn K cd10 "farness" = true) (k10 : PySem.W.keepIn K (.ref f10) = true)
    (a11 : PySem.W.nsIn K mainGlobals "hung_up" = some (some (.ref f11))) (l11 : K.lookup f11 = some ⟨oc11, od11, .func (PySem.W.fnOf "hung_up" "hung_up" (defArgs sHungUp) (defBody sHungUp) (defScope sHungUp) .none kV11 dc11 pm11 an11 cd11 ct11), sl11⟩) (c11 : PySem.W.codeIn K cd11 "hung_up" = true) (k11 : PySem.W.keepIn K (.ref f11) = true)
    (a12 : PySem.W.nsIn K mainGlobals "walked" = some (some (.ref f12))) (l12 : K.lookup f12 = some ⟨oc12, od12, .func (PySem.W.fnOf "walked" "walked" (defArgs sWalked) (defBody sWalked) (defScope sWalked) .none kV12 dc12 pm12 an12 cd12 ct12), sl12⟩) (c12 : PySem.W.codeIn K cd12 "walked" = true) (k12 : PySem.W.keepIn K (.ref f12) = true)
    (a13 : PySem.W.nsIn K mainGlobals "knots_beside" = some (some (.ref f13))) (l13 : K.lookup f13 = some ⟨oc13, od13, .func (PySem.W.fnOf "knots_beside" "knots_beside" (defArgs sKnotsBeside) (defBody sKnotsBeside) (defScope sKnotsBeside) .none kV13 dc13 pm13 an13 cd13 ct13), sl13⟩) (c13 : PySem.W.codeIn K cd13 "knots_beside" = true) (k13 : PySem.W.keepIn K (.ref f13) = true)
    (a14 : PySem.W.nsIn K mainGlobals "answers" = some (some (.ref f14))) (l14 : K.lookup f14 = some ⟨oc14, od14, .func (PySem.W.fnOf "answers" "answers" (defArgs sAnswers) (defBody sAnswers) (defScope sAnswers) .none kV14 dc14 pm14 an14 cd14 ct14), sl14⟩) (c14 : PySem.W.codeIn K cd14 "answers" = true) (k14 : PySem.W.keepIn K (.ref f14) = true)
    (a15 : PySem.W.nsIn K mainGlobals "answer" = some (some (.ref f15))) (l15 : K.lookup f15 = some ⟨oc15, od15, .func (PySem.W.fnOf "answer" "answer" (defArgs sAnswer) (defBody sAnswer) (defScope sAnswer) .none kV15 dc15 pm15 an15 cd15 ct15), sl15⟩) (c15 : PySem.W.codeIn K cd15 "answer" = true) (k15 : PySem.W.keepIn K (.ref f15) = true)
    (a16 : PySem.W.nsIn K mainGlobals "_law_upto" = some (some (.ref f16))) (l16 : K.lookup f16 = some ⟨oc16, od16, .func (PySem.W.fnOf "_law_upto" "_law_upto" (defArgs sUpto) (defBody sUpto) (defScope sUpto) .none kV16 dc16 pm16 an16 cd16 ct16), sl16⟩) (c16 : PySem.W.codeIn K cd16 "_law_upto" = true) (k16 : PySem.W.keepIn K (.ref f16) = true)
    (a17 : PySem.W.nsIn K mainGlobals "_law_whole" = some (some (.ref f17))) (l17 : K.lookup f17 = some ⟨oc17, od17, .func (PySem.W.fnOf "_law_whole" "_law_whole" (defArgs sWhole) (defBody sWhole) (defScope sWhole) .none kV17 dc17 pm17 an17 cd17 ct17), sl17⟩) (c17 : PySem.W.codeIn K cd17 "_law_whole" = true) (k17 : PySem.W.keepIn K (.ref f17) = true)
    (a18 : PySem.W.nsIn K mainGlobals "_law_rooted" = some (some (.ref f18))) (l18 : K.lookup f18 = some ⟨oc18, od18, .func (PySem.W.fnOf "_law_rooted" "_law_rooted" (defArgs sRooted) (defBody sRooted) (defScope sRooted) .none kV18 dc18 pm18 an18 cd18 ct18), sl18⟩) (c18 : PySem.W.codeIn K cd18 "_law_rooted" = true) (k18 : PySem.W.keepIn K (.ref f18) = true)
    (a19 : PySem.W.nsIn K mainGlobals "_law_text_of" = some (some (.ref f19))) (l19 : K.lookup f19 = some ⟨oc19, od19, .func (PySem.W.fnOf "_law_text_of" "_law_text_of" (defArgs sText) (defBody sText) (defScope sText) .none kV19 dc19 pm19 an19 cd19 ct19), sl19⟩) (c19 : PySem.W.codeIn K cd19 "_law_text_of" = true) (k19 : PySem.W.keepIn K (.ref f19) = true)
    (a20 : PySem.W.nsIn K mainGlobals "_law_near_of" = some (some (.ref f20))) (l20 : K.lookup f20 = some ⟨oc20, od20, .func (PySem.W.fnOf "_law_near_of" "_law_near_of" (defArgs sNearOf) (defBody sNearOf) (defScope sNearOf) .none kV20 dc20 pm20 an20 cd20 ct20), sl20⟩) (c20 : PySem.W.codeIn K cd20 "_law_near_of" = true) (k20 : PySem.W.keepIn K (.ref f20) = true)
    (a21 : PySem.W.nsIn K mainGlobals "_law_branch" = some (some (.ref f21))) (l21 : K.lookup f21 = some ⟨oc21, od21, .func (PySem.W.fnOf "_law_branch" "_law_branch" (defArgs sBranch) (defBody sBranch) (defScope sBranch) .none kV21 dc21 pm21 an21 cd21 ct21), sl21⟩) (c21 : PySem.W.codeIn K cd21 "_law_branch" = true) (k21 : PySem.W.keepIn K (.ref f21) = true)
    (a22 : PySem.W.nsIn K mainGlobals "_law_farness_at" = some (some (.ref f22))) (l22 : K.lookup f22 = some ⟨oc22, od22, .func (PySem.W.fnOf "_law_farness_at" "_law_farness_at" (defArgs sFarnessAt) (defBody sFarnessAt) (defScope sFarnessAt) .none kV22 dc22 pm22 an22 cd22 ct22), sl22⟩) (c22 : PySem.W.codeIn K cd22 "_law_farness_at" = true) (k22 : PySem.W.keepIn K (.ref f22) = true)
    (a23 : PySem.W.nsIn K mainGlobals "_law_middles_by" = some (some (.ref f23))) (l23 : K.lookup f23 = some ⟨oc23, od23, .func (PySem.W.fnOf "_law_middles_by" "_law_middles_by" (defArgs sMiddlesBy) (defBody sMiddlesBy) (defScope sMiddlesBy) .none kV23 dc23 pm23 an23 cd23 ct23), sl23⟩) (c23 : PySem.W.codeIn K cd23 "_law_middles_by" = true) (k23 : PySem.W.keepIn K (.ref f23) = true)
    (a24 : PySem.W.nsIn K mainGlobals "_law_free_text" = some (some (.ref f24))) (l24 : K.lookup f24 = some ⟨oc24, od24, .func (PySem.W.fnOf "_law_free_text" "_law_free_text" (defArgs sFreeText) (defBody sFreeText) (defScope sFreeText) .none kV24 dc24 pm24 an24 cd24 ct24), sl24⟩) (c24 : PySem.W.codeIn K cd24 "_law_free_text" = true) (k24 : PySem.W.keepIn K (.ref f24) = true)
    (a25 : PySem.W.nsIn K mainGlobals "_law_lines_of" = some (some (.ref f25))) (l25 : K.lookup f25 = some ⟨oc25, od25, .func (PySem.W.fnOf "_law_lines_of" "_law_lines_of" (defArgs sLinesOf) (defBody sLinesOf) (defScope sLinesOf) .none kV25 dc25 pm25 an25 cd25 ct25), sl25⟩) (c25 : PySem.W.codeIn K cd25 "_law_lines_of" = true) (k25 : PySem.W.keepIn K (.ref f25) = true)
    (a26 : PySem.W.nsIn K mainGlobals "_law_deeds" = some (some (.ref f26))) (l26 : K.lookup f26 = some ⟨oc26, od26, .func (PySem.W.fnOf "_law_deeds" "_law_deeds" (defArgs sDeeds) (defBody sDeeds) (defScope sDeeds) .none kV26 dc26 pm26 an26 cd26 ct26), sl26⟩) (c26 : PySem.W.codeIn K cd26 "_law_deeds" = true) (k26 : PySem.W.keepIn K (.ref f26) = true)
    (a27 : PySem.W.nsIn K mainGlobals "_law_form_for" = some (some (.ref f27))) (l27 : K.lookup f27 = some ⟨oc27, od27, .func (PySem.W.fnOf "_law_form_for" "_law_form_for" (defArgs sFormFor) (defBody sFormFor) (defScope sFormFor) .none kV27 dc27 pm27 an27 cd27 ct27), sl27⟩) (c27 : PySem.W.codeIn K cd27 "_law_form_for" = true) (k27 : PySem.W.keepIn K (.ref f27) = true)
    (a28 : PySem.W.nsIn K mainGlobals "_law_due_of" = some (some (.ref f28))) (l28 : K.lookup f28 = some ⟨oc28, od28, .func (PySem.W.fnOf "_law_due_of" "_law_due_of" (defArgs sDueOf) (defBody sDueOf) (defScope sDueOf) .none kV28 dc28 pm28 an28 cd28 ct28), sl28⟩) (c28 : PySem.W.codeIn K cd28 "_law_due_of" = true) (k28 : PySem.W.keepIn K (.ref f28) = true)
    (a29 : PySem.W.nsIn K mainGlobals "_law_told_by" = some (some (.ref f29))) (l29 : K.lookup f29 = some ⟨oc29, od29, .func (PySem.W.fnOf "_law_told_by" "_law_told_by" (defArgs sToldBy) (defBody sToldBy) (defScope sToldBy) .none kV29 dc29 pm29 an29 cd29 ct29), sl29⟩) (c29 : PySem.W.codeIn K cd29 "_law_told_by" = true) (k29 : PySem.W.keepIn K (.ref f29) = true)
    (a30 : PySem.W.nsIn K mainGlobals "_law_alike" = some (some (.ref f30))) (l30 : K.lookup f30 = some ⟨oc30, od30, .func (PySem.W.fnOf "_law_alike" "_law_alike" (defArgs sAlike) (defBody sAlike) (defScope sAlike) .none kV30 dc30 pm30 an30 cd30 ct30), sl30⟩) (c30 : PySem.W.codeIn K cd30 "_law_alike" = true) (k30 : PySem.W.keepIn K (.ref f30) = true)
    (a31 : PySem.W.nsIn K mainGlobals "_law_like" = some (some (.ref f31))) (l31 : K.lookup f31 = some ⟨oc31, od31, .func (PySem.W.fnOf "_law_like" "_law_like" (defArgs sLike) (defBody sLike) (defScope sLike) .none kV31 dc31 pm31 an31 cd31 ct31), sl31⟩) (c31 : PySem.W.codeIn K cd31 "_law_like" = true) (k31 : PySem.W.keepIn K (.ref f31) = true)
    (a32 : PySem.W.nsIn K mainGlobals "_law_hand_is" = some (some (.ref f32))) (l32 : K.lookup f32 = some ⟨oc32, od32, .func (PySem.W.fnOf "_law_hand_is" "_law_hand_is" (defArgs sHandIs) (defBody sHandIs) (defScope sHandIs) .none kV32 dc32 pm32 an32 cd32 ct32), sl32⟩) (c32 : PySem.W.codeIn K cd32 "_law_hand_is" = true) (k32 : PySem.W.keepIn K (.ref f32) = true)
    (a33 : PySem.W.nsIn K mainGlobals "law" = some (some (.ref f33))) (l33 : K.lookup f33 = some ⟨oc33, od33, .func (PySem.W.fnOf "law" "law" (defArgs sLaw) (defBody sLaw) (defScope sLaw) .none kV33 dc33 pm33 an33 cd33 ct33), sl33⟩) (c33 : PySem.W.codeIn K cd33 "law" = true) (k33 : PySem.W.keepIn K (.ref f33) = true)
    (z1 : PySem.W.nsIn K mainGlobals "len" = some none) (z2 : PySem.W.nsIn K mainGlobals "enumerate" = some none) (z3 : PySem.W.nsIn K mainGlobals "sorted" = some none) (z4 : PySem.W.nsIn K mainGlobals "reversed" = some none) (z5 : PySem.W.nsIn K mainGlobals "range" = some none) (z6 : PySem.W.nsIn K mainGlobals "isinstance" = some none) (z7 : PySem.W.nsIn K mainGlobals "int" = some none) (z8 : PySem.W.nsIn K mainGlobals "bool" = some none) (z9 : PySem.W.nsIn K mainGlobals "list" = some none) (z10 : PySem.W.nsIn K mainGlobals "min" = some none) (z11 : PySem.W.nsIn K mainGlobals "max" = some none) (z12 : PySem.W.nsIn K mainGlobals "tuple" = some none) (z13 : PySem.W.nsIn K mainGlobals "str" = some none) (z14 : PySem.W.nsIn K mainGlobals "ValueError" = some none) :
    ∃ fd : FuncData, (∀ (s : Shared) (v : Value), BindsTo s fd ⟨[v], []⟩ [("_law_script", v)]) /\ ∀ base : Heap, K.In base -> base.Ns mainGlobals mg -> FnOk l.prog w K mg base CX0 67 fa fd ["_law_script"] (spLaw K) := by
  have e := hfa.symm.trans (PySem.W.mg_of X G a33)
  cases e
  have F_sForm := fun_mk (st := sForm) l1 c1 k1; have b_sForm := F_sForm.binds (ps := ["above"]) fun _ _ _ _ _ _ => bl1 fun _ => rfl; have g_sForm := PySem.W.mg_of X G a1; have k_sForm := k1; have F_sKnotForms := funD_mk (st := sKnotForms) l2 c2 k2 t2; have b_sKnotForms := F_sKnotForms.binds (ps := ["above", "marked"]) fun _ _ _ _ _ _ _ => bl2 fun _ _ => ⟨_, rfl, rfl⟩; have b1_sKnotForms := F_sKnotForms.binds1 (ps := ["above", "marked"]) fun _ _ _ _ _ _ _ => bl1s fun _ => ⟨_, rfl, rfl⟩; have g_sKnotForms := PySem.W.mg_of X G a2; have k_sKnotForms := k2; have F_sOver := fun_mk (st := sOver) l3 c3 k3; have b_sOver := F_sOver.binds (ps := ["parts"]) fun _ _ _ _ _ _ => bl1 fun _ => rfl; have g_sOver := PySem.W.mg_of X G a3; have k_sOver := k3; have F_sRoot := fun_mk (st := sRoot) l4 c4 k4; have b_sRoot := F_sRoot.binds (ps := ["above"]) fun _ _ _ _ _ _ => bl1 fun _ => rfl; have g_sRoot := PySem.W.mg_of X G a4; have k_sRoot := k4; have F_sUnder := fun_mk (st := sUnder) l5 c5 k5; have b_sUnder := F_sUnder.binds (ps := ["above"]) fun _ _ _ _ _ _ => bl1 fun _ => rfl; have g_sUnder := PySem.W.mg_of X G a5; have k_sUnder := k5; have F_sDown := fun_mk (st := sDown) l6 c6 k6; have b_sDown := F_sDown.binds (ps := ["root", "under"]) fun _ _ _ _ _ _ => bl2 fun _ _ => rfl; have g_sDown := PySem.W.mg_of X G a6; have k_sDown := k6; have F_sMiddles := fun_mk (st := sMiddles) l7 c7 k7; have b_sMiddles := F_sMiddles.binds (ps := ["tree"]) fun _ _ _ _ _ _ => bl1 fun _ => rfl; have g_sMiddles := PySem.W.mg_of X G a7; have k_sMiddles := k7; have F_sRootedAt := fun_mk (st := sRootedAt) l8 c8 k8; have b_sRootedAt := F_sRootedAt.binds (ps := ["tree", "knot"]) fun _ _ _ _ _ _ => bl2 fun _ _ => rfl; have g_sRootedAt := PySem.W.mg_of X G a8; have k_sRootedAt := k8; have F_sFreeForm := fun_mk (st := sFreeForm) l9 c9 k9; have b_sFreeForm := F_sFreeForm.binds (ps := ["tree"]) fun _ _ _ _ _ _ => bl1 fun _ => rfl; have g_sFreeForm := PySem.W.mg_of X G a9; have k_sFreeForm := k9; have F_sFarness := fun_mk (st := sFarness) l10 c10 k10; have b_sFarness := F_sFarness.binds (ps := ["beside", "knot"]) fun _ _ _ _ _ _ => bl2 fun _ _ => rfl; have g_sFarness := PySem.W.mg_of X G a10; have k_sFarness := k10; have F_sHungUp := fun_mk (st := sHungUp) l11 c11 k11; have b_sHungUp := F_sHungUp.binds (ps := ["beside", "root"]) fun _ _ _ _ _ _ => bl2 fun _ _ => rfl; have g_sHungUp := PySem.W.mg_of X G a11; have k_sHungUp := k11; have F_sWalked := fun_mk (st := sWalked) l12 c12 k12; have b_sWalked := F_sWalked.binds (ps := ["beside", "start"]) fun _ _ _ _ _ _ => bl2 fun _ _ => rfl; have g_sWalked := PySem.W.mg_of X G a12; have k_sWalked := k12; have F_sKnotsBeside := fun_mk (st := sKnotsBeside) l13 c13 k13; have b_sKnotsBeside := F_sKnotsBeside.binds (ps := ["tree"]) fun _ _ _ _ _ _ => bl1 fun _ => rfl; have g_sKnotsBeside := PySem.W.mg_of X G a13; have k_sKnotsBeside := k13; have F_sAnswers := fun_mk (st := sAnswers) l14 c14 k14; have b_sAnswers := F_sAnswers.binds (ps := ["deeds"]) fun _ _ _ _ _ _ => bl1 fun _ => rfl; have g_sAnswers := PySem.W.mg_of X G a14; have k_sAnswers := k14; have F_sAnswer := fun_mk (st := sAnswer) l15 c15 k15; have b_sAnswer := F_sAnswer.binds (ps := ["book", "deed"]) fun _ _ _ _ _ _ => bl2 fun _ _ => rfl; have g_sAnswer := PySem.W.mg_of X G a15; have k_sAnswer := k15; have F_sUpto := fun_mk (st := sUpto) l16 c16 k16; have b_sUpto := F_sUpto.binds (ps := ["_law_script", "_law_small", "_law_great"]) fun _ _ _ _ _ _ => bl3 fun _ _ _ => rfl; have g_sUpto := PySem.W.mg_of X G a16; have k_sUpto := k16; have F_sWhole := fun_mk (st := sWhole) l17 c17 k17; have b_sWhole := F_sWhole.binds (ps := ["_law_found"]) fun _ _ _ _ _ _ => bl1 fun _ => rfl; have g_sWhole := PySem.W.mg_of X G a17; have k_sWhole := k17; have F_sRooted := fun_mk (st := sRooted) l18 c18 k18; have b_sRooted := F_sRooted.binds (ps := ["_law_cells"]) fun _ _ _ _ _ _ => bl1 fun _ => rfl; have g_sRooted := PySem.W.mg_of X G a18; have k_sRooted := k18; have F_sText := fun_mk (st := sText) l19 c19 k19; have b_sText := F_sText.binds (ps := ["_law_above", "_law_knot"]) fun _ _ _ _ _ _ => bl2 fun _ _ => rfl; have g_sText := PySem.W.mg_of X G a19; have k_sText := k19; have F_sNearOf := fun_mk (st := sNearOf) l20 c20 k20; have b_sNearOf := F_sNearOf.binds (ps := ["_law_many", "_law_lines"]) fun _ _ _ _ _ _ => bl2 fun _ _ => rfl; have g_sNearOf := PySem.W.mg_of X G a20; have k_sNearOf := k20; have F_sBranch := fun_mk (st := sBranch) l21 c21 k21; have b_sBranch := F_sBranch.binds (ps := ["_law_near", "_law_knot", "_law_back"]) fun _ _ _ _ _ _ => bl3 fun _ _ _ => rfl; have g_sBranch := PySem.W.mg_of X G a21; have k_sBranch := k21; have F_sFarnessAt := fun_mk (st := sFarnessAt) l22 c22 k22; have b_sFarnessAt := F_sFarnessAt.binds (ps := ["_law_near", "_law_start"]) fun _ _ _ _ _ _ => bl2 fun _ _ => rfl; have g_sFarnessAt := PySem.W.mg_of X G a22; have k_sFarnessAt := k22; have F_sMiddlesBy := fun_mk (st := sMiddlesBy) l23 c23 k23; have b_sMiddlesBy := F_sMiddlesBy.binds (ps := ["_law_near"]) fun _ _ _ _ _ _ => bl1 fun _ => rfl; have g_sMiddlesBy := PySem.W.mg_of X G a23; have k_sMiddlesBy := k23; have F_sFreeText := fun_mk (st := sFreeText) l24 c24 k24; have b_sFreeText := F_sFreeText.binds (ps := ["_law_near"]) fun _ _ _ _ _ _ => bl1 fun _ => rfl; have g_sFreeText := PySem.W.mg_of X G a24; have k_sFreeText := k24; have F_sLinesOf := fun_mk (st := sLinesOf) l25 c25 k25; have b_sLinesOf := F_sLinesOf.binds (ps := ["_law_above", "_law_cells"]) fun _ _ _ _ _ _ => bl2 fun _ _ => rfl; have g_sLinesOf := PySem.W.mg_of X G a25; have k_sLinesOf := k25; have F_sDeeds := fun_mk (st := sDeeds) l26 c26 k26; have b_sDeeds := F_sDeeds.binds (ps := ["_law_cells"]) fun _ _ _ _ _ _ => bl1 fun _ => rfl; have g_sDeeds := PySem.W.mg_of X G a26; have k_sDeeds := k26; have F_sFormFor := fun_mk (st := sFormFor) l27 c27 k27; have b_sFormFor := F_sFormFor.binds (ps := ["_law_deed"]) fun _ _ _ _ _ _ => bl1 fun _ => rfl; have g_sFormFor := PySem.W.mg_of X G a27; have k_sFormFor := k27; have F_sDueOf := fun_mk (st := sDueOf) l28 c28 k28; have b_sDueOf := F_sDueOf.binds (ps := ["_law_kinds", "_law_times", "_law_deed"]) fun _ _ _ _ _ _ => bl3 fun _ _ _ => rfl; have g_sDueOf := PySem.W.mg_of X G a28; have k_sDueOf := k28; have F_sToldBy := fun_mk (st := sToldBy) l29 c29 k29; have b_sToldBy := F_sToldBy.binds (ps := ["_law_book", "_law_deed"]) fun _ _ _ _ _ _ => bl2 fun _ _ => rfl; have g_sToldBy := PySem.W.mg_of X G a29; have k_sToldBy := k29; have F_sAlike := fun_mk (st := sAlike) l30 c30 k30; have b_sAlike := F_sAlike.binds (ps := ["_law_found", "_law_due"]) fun _ _ _ _ _ _ => bl2 fun _ _ => rfl; have g_sAlike := PySem.W.mg_of X G a30; have k_sAlike := k30; have F_sLike := fun_mk (st := sLike) l31 c31 k31; have b_sLike := F_sLike.binds (ps := ["_law_found", "_law_due"]) fun _ _ _ _ _ _ => bl2 fun _ _ => rfl; have g_sLike := PySem.W.mg_of X G a31; have k_sLike := k31; have F_sHandIs := fun_mk (st := sHandIs) l32 c32 k32; have b_sHandIs := F_sHandIs.binds (ps := ["_law_told", "_law_due"]) fun _ _ _ _ _ _ => bl2 fun _ _ => rfl; have g_sHandIs := PySem.W.mg_of X G a32; have k_sHandIs := k32; have F_sLaw := fun_mk (st := sLaw) l33 c33 k33; have F_sMInit := fun_mk (st := sMInit) ml0 mc0 mk0; have b_sMInit := F_sMInit.binds (ps := ["self"]) fun _ _ _ _ _ _ => bl1 fun _ => rfl; have t_sMInit : Meth K CBook "__init__" mf0 := ⟨ma0, mi0, mk0⟩; have F_sMRooted := fun_mk (st := sMRooted) ml1 mc1 mk1; have b_sMRooted := F_sMRooted.binds (ps := ["self", "above"]) fun _ _ _ _ _ _ => bl2 fun _ _ => rfl; have t_sMRooted : Meth K CBook "rooted" mf1 := ⟨ma1, mi1, mk1⟩; have F_sMFree := fun_mk (st := sMFree) ml2 mc2 mk2; have b_sMFree := F_sMFree.binds (ps := ["self", "tree"]) fun _ _ _ _ _ _ => bl2 fun _ _ => rfl; have t_sMFree : Meth K CBook "free" mf2 := ⟨ma2, mi2, mk2⟩; have F_sMForm := fun_mk (st := sMForm) ml3 mc3 mk3; have b_sMForm := F_sMForm.binds (ps := ["self", "kind"]) fun _ _ _ _ _ _ => bl2 fun _ _ => rfl; have t_sMForm : Meth K CBook "form" mf3 := ⟨ma3, mi3, mk3⟩; have F_sMOneMore := fun_mk (st := sMOneMore) ml4 mc4 mk4; have b_sMOneMore := F_sMOneMore.binds (ps := ["self", "told_as", "form"]) fun _ _ _ _ _ _ => bl3 fun _ _ _ => rfl; have t_sMOneMore : Meth K CBook "one_more" mf4 := ⟨ma4, mi4, mk4⟩; have m_TreeError := PySem.W.mg_of X G qTreeError; have m_NoTree := PySem.W.mg_of X G qNoTree; have m_NoForm := PySem.W.mg_of X G qNoForm; have m_NoKind := PySem.W.mg_of X G qNoKind; have m_Book := PySem.W.mg_of X G qBook; have m_MARK := PySem.W.mg_of X G qMARK; have m_len := PySem.W.mg_none_of X G z1; have m_enumerate := PySem.W.mg_none_of X G z2; have m_sorted := PySem.W.mg_none_of X G z3; have m_reversed := PySem.W.mg_none_of X G z4; have m_range := PySem.W.mg_none_of X G z5; have m_isinstance := PySem.W.mg_none_of X G z6; have m_int := PySem.W.mg_none_of X G z7; have m_bool := PySem.W.mg_none_of X G z8; have m_list := PySem.W.mg_none_of X G z9; have m_min := PySem.W.mg_none_of X G z10; have m_max := PySem.W.mg_none_of X G z11; have m_tuple := PySem.W.mg_none_of X G z12; have m_str := PySem.W.mg_none_of X G z13; have m_ValueError := PySem.W.mg_none_of X G z14; refine ⟨PySem.W.fnOf "law" "law" (defArgs sLaw) (defBody sLaw) (defScope sLaw) .none kV33 dc33 pm33 an33 cd33 ct33, fun s v => .of_eq rfl, fun base _ _ => ?_⟩; have xnt : XC K CNoTree := ⟨nt1, nt2, nt3, nt4, nt5, nt6, nt7, nt8, nt9⟩; have xnk : XC K CNoKind := ⟨nk1, nk2, nk3, nk4, nk5, nk6, nk7, nk8, nk9⟩; have cl : BookC K CBook := ⟨⟨bc1, bc2, bc3, bc4⟩, bc7, bc8, bc9⟩; have mk : Mk K CBook mf0 := ⟨bc5, ma0, mi0, bc6⟩; have GO : Kit l.prog w K mg base 1 _ _ spOver _ _ := ⟨ok_over F_sOver m_sorted, b_sOver, k_sOver, g_sOver⟩; have GRt : KitE l.prog w K mg base 1 _ _ (spRootX CNoTree) _ _ := ⟨ok_rootX F_sRoot m_enumerate m_len m_NoTree xnt, b_sRoot, k_sRoot, g_sRoot⟩; have GU : KitE l.prog w K mg base 1 _ _ (spUnderX CNoTree) _ _ := ⟨ok_underX F_sUnder m_enumerate m_len m_NoTree xnt, b_sUnder, k_sUnder, g_sUnder⟩; have GD : Kit l.prog w K mg base 1 _ _ spDownK _ _ := ⟨ok_downK F_sDown m_len, b_sDown, k_sDown, g_sDown⟩; have GK : KitD l.prog w K mg base 2 _ _ (spKnots CNoTree) _ _ := ⟨ok_knots F_sKnotForms GO GRt GU GD m_len m_reversed m_NoTree xnt m_MARK, b_sKnotForms, b1_sKnotForms, k_sKnotForms, g_sKnotForms⟩; have GFX : KitE l.prog w K mg base 3 _ _ (spFormX CNoTree) _ _ := ⟨ok_formX F_sForm GK GRt, b_sForm, k_sForm, g_sForm⟩; have GBs : KitE l.prog w K mg base 1 _ _ (spBeside CNoTree) _ _ := ⟨ok_beside F_sKnotsBeside m_len m_range m_min m_max m_NoTree xnt, b_sKnotsBeside, k_sKnotsBeside, g_sKnotsBeside⟩; have GWk : KitE l.prog w K mg base 1 _ _ (spWalked CNoTree) _ _ := ⟨ok_walked F_sWalked m_len m_NoTree xnt, b_sWalked, k_sWalked, g_sWalked⟩; have GHu : KitE l.prog w K mg base 2 _ _ (spHung CNoTree) _ _ := ⟨ok_hung F_sHungUp GWk m_len m_range, b_sHungUp, k_sHungUp, g_sHungUp⟩; have GRa : KitE l.prog w K mg base 3 _ _ (spRootedAt CNoTree) _ _ := ⟨ok_rootedAt F_sRootedAt GBs GHu, b_sRootedAt, k_sRootedAt, g_sRootedAt⟩; have GFn : KitE l.prog w K mg base 2 _ _ (spFarness CNoTree) _ _ := ⟨ok_farness F_sFarness GWk m_max, b_sFarness, k_sFarness, g_sFarness⟩; have GMi : KitE l.prog w K mg base 3 _ _ (spMiddles CNoTree) _ _ := ⟨ok_middles F_sMiddles GBs GFn m_len m_range m_min m_enumerate, b_sMiddles, k_sMiddles, g_sMiddles⟩; have GFf : KitE l.prog w K mg base 4 _ _ (spFreeForm CNoTree) _ _ := ⟨ok_freeForm F_sFreeForm GMi GRa GFX GK m_len m_sorted, b_sFreeForm, k_sFreeForm, g_sFreeForm⟩; have GI0 : FnOk l.prog w K mg base CX0 1 _ _ ["self"] (spInitB CBook) := ok_mInit F_sMInit cl; have GM1 : KitM l.prog w K mg base CX0 1 _ _ _ (spOneMore CBook) _ _ := ⟨ok_mOne F_sMOneMore cl m_len, b_sMOneMore, t_sMOneMore⟩; have GMr : KitM l.prog w K mg base (CXe l.prog w) 4 _ _ _ (spTreeM CBook CNoTree true) _ _ := ⟨ok_mRooted F_sMRooted cl GM1 GFX, b_sMRooted, t_sMRooted⟩; have GMf : KitM l.prog w K mg base (CXe l.prog w) 5 _ _ _ (spTreeM CBook CNoTree false) _ _ := ⟨ok_mFree F_sMFree cl GM1 GFf, b_sMFree, t_sMFree⟩; have GMk : KitM l.prog w K mg base (CXe l.prog w) 1 _ _ _ (spFormM CBook CNoKind) _ _ := ⟨ok_mForm F_sMForm cl m_len m_NoKind xnk, b_sMForm, t_sMForm⟩; have GAn : Kit l.prog w K mg base 6 _ _ (spAnswer CBook) _ _ := ⟨ok_answer F_sAnswer cl GMr GMf GMk m_NoTree m_NoKind y1 y2 y3, b_sAnswer, k_sAnswer, g_sAnswer⟩; have GAs : Kit l.prog w K mg base 7 _ _ spAnswers _ _ := ⟨ok_answers F_sAnswers mk GI0 b_sMInit m_Book GAn, b_sAnswers, k_sAnswers, g_sAnswers⟩; have GP : Kit l.prog w K mg base 1 _ _ (spUpto K) _ _ := ⟨ok_upto F_sUpto m_len, b_sUpto, k_sUpto, g_sUpto⟩; have GW : Kit l.prog w K mg base 1 _ _ spWhole _ _ := ⟨ok_whole F_sWhole m_isinstance m_int m_bool, b_sWhole, k_sWhole, g_sWhole⟩; have GR : Kit l.prog w K mg base 1 _ _ spRooted _ _ := ⟨ok_rooted F_sRooted m_len m_range, b_sRooted, k_sRooted, g_sRooted⟩; have GT : Kit l.prog w K mg base 64 _ _ (spText 64) _ _ := ⟨text_all F_sText b_sText g_sText m_len m_range m_sorted 64, b_sText, k_sText, g_sText⟩; have GLo : Kit l.prog w K mg base 1 _ _ spLinesOfN _ _ := ⟨ok_linesOf F_sLinesOf m_len m_range, b_sLinesOf, k_sLinesOf, g_sLinesOf⟩; have GNo : Kit l.prog w K mg base 1 _ _ spNearOf _ _ := ⟨ok_nearOf F_sNearOf m_range, b_sNearOf, k_sNearOf, g_sNearOf⟩; have GBr : Kit l.prog w K mg base 63 _ _ (spBranch 63) _ _ := ⟨branch_all F_sBranch b_sBranch g_sBranch m_sorted 63, b_sBranch, k_sBranch, g_sBranch⟩; have GFat : Kit l.prog w K mg base 1 _ _ spFarAt _ _ := ⟨ok_farAt F_sFarnessAt m_max, b_sFarnessAt, k_sFarnessAt, g_sFarnessAt⟩; have GMb : Kit l.prog w K mg base 2 _ _ spMidsBy _ _ := ⟨ok_midsBy F_sMiddlesBy GFat m_len m_range m_min, b_sMiddlesBy, k_sMiddlesBy, g_sMiddlesBy⟩; have GFt : Kit l.prog w K mg base 64 _ _ spFreeText _ _ := ⟨ok_freeText F_sFreeText GMb GBr m_len m_sorted, b_sFreeText, k_sFreeText, g_sFreeText⟩; have GDe : Kit l.prog w K mg base 2 _ _ spDeeds _ _ := ⟨ok_deeds F_sDeeds GR GLo m_len m_range, b_sDeeds, k_sDeeds, g_sDeeds⟩; have GFo : Kit l.prog w K mg base 65 _ _ spFormFor _ _ := ⟨ok_formFor F_sFormFor GT GNo GFt, b_sFormFor, k_sFormFor, g_sFormFor⟩; have GDu : Kit l.prog w K mg base 66 _ _ spDueOf _ _ := ⟨ok_dueOf F_sDueOf GFo m_len, b_sDueOf, k_sDueOf, g_sDueOf⟩; have GTb : Kit l.prog w K mg base 6 _ _ (spToldBy CBook) _ _ := ⟨ok_toldBy F_sToldBy cl GMr GMf GMk m_NoTree m_NoKind m_NoForm m_TreeError xnt xnk y4 y5 y6 y7 y8 y9 y10 y11 m_isinstance m_ValueError m_list m_int, b_sToldBy, k_sToldBy, g_sToldBy⟩; have GAl : Kit l.prog w K mg base 2 _ _ spAlikeA _ _ := ⟨ok_alikeA F_sAlike GW m_len m_isinstance m_str m_tuple, b_sAlike, k_sAlike, g_sAlike⟩; have GHi : Kit l.prog w K mg base 3 _ _ spHandIs _ _ := ⟨ok_handIs F_sHandIs GAl m_isinstance m_str m_tuple, b_sHandIs, k_sHandIs, g_sHandIs⟩; have GLi : Kit l.prog w K mg base 1 _ _ spLikeN _ _ := ⟨ok_likeN F_sLike m_len m_isinstance m_list m_tuple m_str m_int m_bool, b_sLike, k_sLike, g_sLike⟩; have GMfq := GMf.quiet treeM_quiet; have GMrq := GMr.quiet treeM_quiet; have GMkq := GMk.quiet formM_quiet; exact ok_law F_sLaw cl mk GI0 b_sMInit m_Book GP GDe GAs GAl GMfq GMrq GMkq GDu GTb GHi GLi m_len m_isinstance m_list m_range
theorem walk {l : PySem.W.OpenLaw} {q : Program} {loose : List Str} {XP : (Str -> Option Value) -> Heap -> Prop} {YP : World -> Heap -> Prop} {d : DefRec} {K : Params -> PySem.W.Frag} (hn : l.most = some 63) (hdf : d.params.defaults = [])
    (hY : ∀ (w : World) (h : Heap), YP w h -> (K w.params).In h)
    (F : ∀ (w : World) (mg : Str -> Option Value) (fa : Addr) (h : Heap), (K w.params).In h -> h.Ns mainGlobals mg -> mg d.name = some (.ref fa) ->
      ∃ fd : FuncData, (∀ (s : Shared) (u : Value), BindsTo s fd ⟨[u], []⟩ [("_law_script", u)]) /\ ∀ base : Heap, (K w.params).In base -> base.Ns mainGlobals mg -> FnOk l.prog w (K w.params) mg base CX0 67 fa fd ["_law_script"] (spLaw (K w.params))) :
    PySem.W.WalkO q loose XP YP l.row.toRowW d [] (fun f vs => PySem.call f vs) :=
  L2.walk_of (n := 63) (k := 67) (x := "_law_script") (CX := fun w => CX0) (sp := fun w => spLaw (K w.params)) hn (by decide) hdf ⟨rfl, by decide, by decide⟩ hY F (fun _ _ a ns hl _ hS => ⟨a, ns, rfl, hS, hl, fun _ => rfl⟩) fun _ _ _ _ _ z => z
end K13
open PySem PySem.W PyProof.Rows
set_option maxRecDepth 100000 in
set_option maxHeartbeats 0 in
theorem PySem.Challenge.cw_shapekin_k13_whole_a_book_holds : PySem.Challenge.rw_shapekin_k13_whole_a_book.Holds := by
  w_on; o_law; k_head; (case hw => w_witness2)
  k_fill
  refine K13.walk (l := PySem.Challenge.rw_shapekin_k13_whole_a_book) rfl rfl (fun w h Y => PySem.W.kIn_of Y) ?F
  case F =>
    intro w mg fa h KX G hmg
    refine' K13.all_mk KX G hmg ?qTreeError ?qNoTree ?qNoForm ?qNoKind ?qBook ?qMARK ?nt1 ?nt2 ?nt3 ?nt4 ?nt5 ?nt6 ?nt7 ?nt8 ?nt9 ?nk1 ?nk2 ?nk3 ?nk4 ?nk5 ?nk6 ?nk7 ?nk8 ?nk9 ?y1 ?y2 ?y3 ?y4 ?y5 ?y6 ?y7 ?y8 ?y9 ?y10 ?y11 ?bc1 ?bc2 ?bc3 ?bc4 ?bc5 ?bc6 ?bc7 ?bc8 ?bc9 ?ma0 ?ml0 ?mc0 ?mk0 ?mi0 ?ma1 ?ml1 ?mc1 ?mk1 ?mi1 ?ma2 ?ml2 ?mc2 ?mk2 ?mi2 ?ma3 ?ml3 ?mc3 ?mk3 ?mi3 ?ma4 ?ml4 ?mc4 ?mk4 ?mi4 ?a1 ?l1 ?c1 ?k1 ?a2 ?l2 ?c2 ?k2 ?t2 ?a3 ?l3 ?c3 ?k3 ?a4 ?l4 ?c4 ?k4 ?a5 ?l5 ?c5 ?k5 ?a6 ?l6 ?c6 ?k6 ?a7 ?l7 ?c7 ?k7 ?a8 ?l8 ?c8 ?k8 ?a9 ?l9 ?c9 ?k9 ?a10 ?l10 ?c10 ?k10 ?a11 ?l11 ?c11 ?k11 ?a12 ?l12 ?c12 ?k12 ?a13 ?l13 ?c13 ?k13 ?a14 ?l14 ?c14 ?k14 ?a15 ?l15 ?c15 ?k15 ?a16 ?l16 ?c16 ?k16 ?a17 ?l17 ?c17 ?k17 ?a18 ?l18 ?c18 ?k18 ?a19 ?l19 ?c19 ?k19 ?a20 ?l20 ?c20 ?k20 ?a21 ?l21 ?c21 ?k21 ?a22 ?l22 ?c22 ?k22 ?a23 ?l23 ?c23 ?k23 ?a24 ?l24 ?c24 ?k24 ?a25 ?l25 ?c25 ?k25 ?a26 ?l26 ?c26 ?k26 ?a27 ?l27 ?c27 ?k27 ?a28 ?l28 ?c28 ?k28 ?a29 ?l29 ?c29 ?k29 ?a30 ?l30 ?c30 ?k30 ?a31 ?l31 ?c31 ?k31 ?a32 ?l32 ?c32 ?k32 ?a33 ?l33 ?c33 ?k33 ?z1 ?z2 ?z3 ?z4 ?z5 ?z6 ?z7 ?z8 ?z9 ?z10 ?z11 ?z12 ?z13 ?z14
    (case qTreeError => k_is)
    (case qNoTree => k_is)
    (case qNoForm => k_is)
    (case qNoKind => k_is)
    (case qBook => k_is)
    (case qMARK => k_is)
    (case nt1 => first | k_is | k_exc | kit_is | kts_exm)
    (case nt2 => first | k_is | k_exc | kit_is | kts_exm)
    (case nt3 => first | k_is | k_exc | kit_is | kts_exm)
    (case nt4 => first | k_is | k_exc | kit_is | kts_exm)
    (case nt5 => first | k_is | k_exc | kit_is | kts_exm)
    (case nt6 => first | k_is | k_exc | kit_is | kts_exm)
    (case nt7 => first | k_is | k_exc | kit_is | kts_exm)
    (case nt8 => first | k_is | k_exc | kit_is | kts_exm)
    (case nt9 => first | k_is | k_exc | kit_is | kts_exm)
    (case nk1 => first | k_is | k_exc | kit_is | kts_exm)
    (case nk2 => first | k_is | k_exc | kit_is | kts_exm)
    (case nk3 => first | k_is | k_exc | kit_is | kts_exm)
    (case nk4 => first | k_is | k_exc | kit_is | kts_exm)
    (case nk5 => first | k_is | k_exc | kit_is | kts_exm)
    (case nk6 => first | k_is | k_exc | kit_is | kts_exm)
    (case nk7 => first | k_is | k_exc | kit_is | kts_exm)
    (case nk8 => first | k_is | k_exc | kit_is | kts_exm)
    (case nk9 => first | k_is | k_exc | kit_is | kts_exm)
    (case y1 => first | k_is | k_exc | kit_is | kts_exm)
    (case y2 => first | k_is | k_exc | kit_is | kts_exm)
    (case y3 => first | k_is | k_exc | kit_is | kts_exm)
    (case y4 => first | k_is | k_exc | kit_is | kts_exm)
    (case y5 => first | k_is | k_exc | kit_is | kts_exm)
    (case y6 => first | k_is | k_exc | kit_is | kts_exm)
    (case y7 => first | k_is | k_exc | kit_is | kts_exm)
    (case y8 => first | k_is | k_exc | kit_is | kts_exm)
    (case y9 => first | k_is | k_exc | kit_is | kts_exm)
    (case y10 => first | k_is | k_exc | kit_is | kts_exm)
    (case y11 => first | k_is | k_exc | kit_is | kts_exm)
    (case bc1 => first | k_is | k_exc | kit_is | kts_exm)
    (case bc2 => first | k_is | k_exc | kit_is | kts_exm)
    (case bc3 => first | k_is | k_exc | kit_is | kts_exm)
    (case bc4 => first | k_is | k_exc | kit_is | kts_exm)
    (case bc5 => first | k_is | k_exc | kit_is | kts_exm)
    (case bc6 => first | k_is | k_exc | kit_is | kts_exm)
    (case bc7 => first | k_is | k_exc | kit_is | kts_exm)
    (case bc8 => first | k_is | k_exc | kit_is | kts_exm)
    (case bc9 => first | k_is | k_exc | kit_is | kts_exm)
    (case ma0 => k_is)
    (case ml0 => k_is)
    (case mc0 => k_is)
    (case mk0 => k_is)
    (case mi0 => k_is)
    (case ma1 => k_is)
    (case ml1 => k_is)
    (case mc1 => k_is)
    (case mk1 => k_is)
    (case mi1 => k_is)
    (case ma2 => k_is)
    (case ml2 => k_is)
    (case mc2 => k_is)
    (case mk2 => k_is)
    (case mi2 => k_is)
    (case ma3 => k_is)
    (case ml3 => k_is)
    (case mc3 => k_is)
    (case mk3 => k_is)
    (case mi3 => k_is)
    (case ma4 => k_is)
    (case ml4 => k_is)
    (case mc4 => k_is)
    (case mk4 => k_is)
    (case mi4 => k_is)
    (case a1 => k_is)
    (case l1 => k_is)
    (case c1 => k_is)
    (case k1 => k_is)
    (case a2 => k_is)
    (case l2 => k_is)
    (case c2 => k_is)
    (case k2 => k_is)
    (case t2 => k_is)
    (case a3 => k_is)
    (case l3 => k_is)
    (case c3 => k_is)
    (case k3 => k_is)
    (case a4 => k_is)
    (case l4 => k_is)
    (case c4 => k_is)
    (case k4 => k_is)
    (case a5 => k_is)
    (case l5 => k_is)
    (case c5 => k_is)
    (case k5 => k_is)
    (case a6 => k_is)
    (case l6 => k_is)
    (case c6 => k_is)
    (case k6 => k_is)
    (case a7 => k_is)
    (case l7 => k_is)
    (case c7 => k_is)
    (case k7 => k_is)
    (case a8 => k_is)
    (case l8 => k_is)
    (case c8 => k_is)
    (case k8 => k_is)
    (case a9 => k_is)
    (case l9 => k_is)
    (case c9 => k_is)
    (case k9 => k_is)
    (case a10 => k_is)
    (case l10 => k_is)
    (case c10 => k_is)
    (case k10 => k_is)
    (case a11 => k_is)
    (case l11 => k_is)
    (case c11 => k_is)
    (case k11 => k_is)
    (case a12 => k_is)
    (case l12 => k_is)
    (case c12 => k_is)
    (case k12 => k_is)
    (case a13 => k_is)
    (case l13 => k_is)
    (case c13 => k_is)
    (case k13 => k_is)
    (case a14 => k_is)
    (case l14 => k_is)
    (case c14 => k_is)
    (case k14 => k_is)
    (case a15 => k_is)
    (case l15 => k_is)
    (case c15 => k_is)
    (case k15 => k_is)
    (case a16 => k_is)
    (case l16 => k_is)
    (case c16 => k_is)
    (case k16 => k_is)
    (case a17 => k_is)
    (case l17 => k_is)
    (case c17 => k_is)
    (case k17 => k_is)
    (case a18 => k_is)
    (case l18 => k_is)
    (case c18 => k_is)
    (case k18 => k_is)
    (case a19 => k_is)
    (case l19 => k_is)
    (case c19 => k_is)
    (case k19 => k_is)
    (case a20 => k_is)
    (case l20 => k_is)
    (case c20 => k_is)
    (case k20 => k_is)
    (case a21 => k_is)
    (case l21 => k_is)
    (case c21 => k_is)
    (case k21 => k_is)
    (case a22 => k_is)
    (case l22 => k_is)
    (case c22 => k_is)
    (case k22 => k_is)
    (case a23 => k_is)
    (case l23 => k_is)
    (case c23 => k_is)
    (case k23 => k_is)
    (case a24 => k_is)
    (case l24 => k_is)
    (case c24 => k_is)
    (case k24 => k_is)
    (case a25 => k_is)
    (case l25 => k_is)
    (case c25 => k_is)
    (case k25 => k_is)
    (case a26 => k_is)
    (case l26 => k_is)
    (case c26 => k_is)
    (case k26 => k_is)
    (case a27 => k_is)
    (case l27 => k_is)
    (case c27 => k_is)
    (case k27 => k_is)
    (case a28 => k_is)
    (case l28 => k_is)
    (case c28 => k_is)
    (case k28 => k_is)
    (case a29 => k_is)
    (case l29 => k_is)
    (case c29 => k_is)
    (case k29 => k_is)
    (case a30 => k_is)
    (case l30 => k_is)
    (case c30 => k_is)
    (case k30 => k_is)
    (case a31 => k_is)
    (case l31 => k_is)
    (case c31 => k_is)
    (case k31 => k_is)
    (case a32 => k_is)
    (case l32 => k_is)
    (case c32 => k_is)
    (case k32 => k_is)
    (case a33 => k_is)
    (case l33 => k_is)
    (case c33 => k_is)
    (case k33 => k_is)
    (case z1 => k_is)
    (case z2 => k_is)
    (case z3 => k_is)
    (case z4 => k_is)
    (case z5 => k_is)
    (case z6 => k_is)
    (case z7 => k_is)
    (case z8 => k_is)
    (case z9 => k_is)
    (case z10 => k_is)
    (case z11 => k_is)
    (case z12 => k_is)
    (case z13 => k_is)
    (case z14 => k_is)
#print axioms PySem.Challenge.cw_shapekin_k13_whole_a_book_holds
