import PyProof.Rows.All
import Wide.All
import OpenK.AllK
import Wide.FinOn
import Lean
import PyProof.EqAt
import PyProof.EqKinds
import PyProof.TupleCall
import PyProof.Rows.TmSorted
import PyProof.StrBlockL
import PyProof.Rows.StrMeet
import PySem.Challenge.RW_shapekin_k09_whole_free_forms

set_option Elab.async false
set_option linter.all false
set_option maxRecDepth 100000
namespace L2
open PySem PySem.Spec PyProof.Rows

abbrev Key := Sum Int Str
def keyIs : Key → Value → Bool
  | .inl k, v => Value.isInt k v
  | .inr x, v => Value.isStrOf x v
def keyH (w : World) : Key → Int
  | .inl k => hashInt k
  | .inr x => hashStr w x
theorem keyIs_shape : ∀ {k : Key} {v : Value}, keyIs k v = true → (∃ i t, k = Sum.inl i ∧ v = Value.int i t) ∨ (∃ x t, k = Sum.inr x ∧ v = Value.str x t)
  | .inl i, v, h => by
    obtain ⟨t, e⟩ := Value.isInt_shape (k := i) (v := v) h
    exact .inl ⟨i, t, rfl, e⟩
  | .inr x, v, h => by
    obtain ⟨t, e⟩ := Value.isStrOf_shape (x := x) (v := v) h
    exact .inr ⟨x, t, rfl, e⟩
theorem keyIs_int (i : Int) (t : Tok) : keyIs (.inl i) (.int i t) = true := by simp [keyIs, Value.isInt]
theorem keyIs_str (x : Str) (t : Tok) : keyIs (.inr x) (.str x t) = true := by simp [keyIs, Value.isStrOf]
theorem key_ll (a b : Int) : decide ((Sum.inl a : Key) = Sum.inl b) = (a == b) := by
  by_cases e : a = b
  · subst e; simp
  · have h : ¬ (Sum.inl a : Key) = Sum.inl b := fun q => e (Sum.inl.inj q)
    rw [decide_eq_false h]
    exact (beq_eq_false_iff_ne.mpr e).symm
theorem key_rr (a b : Str) : decide ((Sum.inr a : Key) = Sum.inr b) = decide (a = b) := by
  by_cases e : a = b
  · subst e; simp
  · have h : ¬ (Sum.inr a : Key) = Sum.inr b := fun q => e (Sum.inr.inj q)
    rw [decide_eq_false h, decide_eq_false e]
theorem key_lr (a : Int) (b : Str) : decide ((Sum.inl a : Key) = Sum.inr b) = false := decide_eq_false (fun q => nomatch q)
theorem key_rl (a : Str) (b : Int) : decide ((Sum.inr a : Key) = Sum.inl b) = false := decide_eq_false (fun q => nomatch q)

def mixKind (prog : Program) (w : World) : PySem.KeyKind prog w Key where
  is := keyIs
  hash := keyH w
  inj := fun v a b ha hb => by
    rcases keyIs_shape ha with ⟨i, t, rfl, rfl⟩ | ⟨x, t, rfl, rfl⟩
    · rcases keyIs_shape hb with ⟨j, u, rfl, e⟩ | ⟨y, u, rfl, e⟩
      · injection e with e1 _; rw [e1]
      · exact nomatch e
    · rcases keyIs_shape hb with ⟨j, u, rfl, e⟩ | ⟨y, u, rfl, e⟩
      · exact nomatch e
      · injection e with e1 _; rw [e1]
  byValue := fun k v h => by
    rcases keyIs_shape h with ⟨i, t, rfl, rfl⟩ | ⟨x, t, rfl, rfl⟩ <;> rfl
  pyHash := fun hv h => by
    rcases keyIs_shape hv with ⟨i, t, rfl, rfl⟩ | ⟨x, t, rfl, rfl⟩
    · exact wpAny_pyHash_int h
    · exact wpAny_pyHash_str h
  eqBool := fun hu hv h => by
    rcases keyIs_shape hu with ⟨i, t, rfl, rfl⟩ | ⟨x, t, rfl, rfl⟩
    · rcases keyIs_shape hv with ⟨j, u, rfl, rfl⟩ | ⟨y, u, rfl, rfl⟩
      · rw [key_ll] at h; exact wpAny_eqBool_int h
      · rw [key_lr] at h; exact SeqAt.EqAt.int_str i t y u _ _ _ _ h
    · rcases keyIs_shape hv with ⟨j, u, rfl, rfl⟩ | ⟨y, u, rfl, rfl⟩
      · rw [key_rl] at h; exact SeqAt.EqAt.str_int x t j u _ _ _ _ h
      · rw [key_rr] at h; exact wpAny_eqBool_str h
  «strs» := fun k x t v h => by
    rcases keyIs_shape h with ⟨i, u, rfl, e⟩ | ⟨y, u, rfl, e⟩
    · exact nomatch e
    · injection e with e1 _
      subst e1
      cases v <;> rfl

theorem mixKind_int (prog : Program) (w : World) (i : Int) (t : Tok) : (mixKind prog w).is (.inl i) (.int i t) = true := keyIs_int i t
theorem mixKind_str (prog : Program) (w : World) (x : Str) (t : Tok) : (mixKind prog w).is (.inr x) (.str x t) = true := keyIs_str x t
end L2

namespace L2
open PySem PySem.Spec PyProof.Rows

inductive V where
  | non | bl (b : Bool) | int (i : Int) | str (x : Str) | byt (b : Array UInt8) | flt (b : UInt64) | ref (a : Addr) | ty (n : String)
  deriving DecidableEq

def RelV : V → Value → Prop
  | .non, u => u = Value.none
  | .bl b, u => u = Value.bool b
  | .int i, u => ∃ t, u = Value.int i t
  | .str x, u => ∃ t, u = Value.str x t
  | .byt b, u => ∃ t, u = Value.bytes b t
  | .flt b, u => ∃ t, u = Value.float b t
  | .ref a, u => u = Value.ref a
  | .ty n, u => u = Value.type n

abbrev Vals : List V → List Value → Prop := Paired RelV
theorem Vals.length {xs : List V} {us : List Value} (r : Vals xs us) : xs.length = us.length := Paired.length r
theorem Vals.get : ∀ {xs : List V} {us : List Value} {i : Nat} {x : V}, Vals xs us → xs[i]? = some x → ∃ u, us[i]? = some u ∧ RelV x u
  | _, _, _, _, .nil, e => by simp at e
  | _, _, 0, _, .cons r _, e => by simp at e; subst e; exact ⟨_, rfl, r⟩
  | _, _, i + 1, x, .cons _ t, e => by
    obtain ⟨u, h1, h2⟩ := Vals.get (i := i) (x := x) t (by simpa using e)
    exact ⟨u, by simpa using h1, h2⟩
theorem Vals.set {x : V} {u : Value} (r : RelV x u) : ∀ {xs : List V} {us : List Value} (i : Nat), Vals xs us → Vals (xs.set i x) (us.set i u)
  | _, _, _, .nil => .nil
  | _, _, 0, .cons _ t => .cons r t
  | _, _, i + 1, .cons q t => .cons q (Vals.set r i t)
theorem Vals.append : ∀ {xs ys : List V} {us ws : List Value}, Vals xs us → Vals ys ws → Vals (xs ++ ys) (us ++ ws)
  | _, _, _, _, .nil, s => s
  | _, _, _, _, .cons r t, s => .cons r (Vals.append t s)
theorem Vals.take : ∀ {xs : List V} {us : List Value} (n : Nat), Vals xs us → Vals (xs.take n) (us.take n)
  | _, _, 0, _ => .nil
  | _, _, _ + 1, .nil => .nil
  | _, _, n + 1, .cons r t => .cons r (Vals.take n t)
theorem Vals.drop : ∀ {xs : List V} {us : List Value} (n : Nat), Vals xs us → Vals (xs.drop n) (us.drop n)
  | _, _, 0, r => r
  | _, _, _ + 1, .nil => .nil
  | _, _, n + 1, .cons _ t => Vals.drop n t
theorem Vals.none_of : ∀ {xs : List V} {us : List Value} {i : Nat}, Vals xs us → xs[i]? = none → us[i]? = none := fun {xs us i} r e => by
  have h1 := r.length
  have h2 : xs.length ≤ i := List.getElem?_eq_none_iff.mp e
  exact List.getElem?_eq_none_iff.mpr (by omega)

def RelO : Option V → Option Value → Prop
  | some v, some u => RelV v u
  | none, none => True
  | _, _ => False
def KV {κ : Type} : List (κ × V) → List (κ × Value) → Prop := Paired fun (p : κ × V) (q : κ × Value) => p.1 = q.1 ∧ RelV p.2 q.2

def kV : Key → V
  | .inl i => .int i
  | .inr x => .str x

inductive HO where
  /-- a list -/
  | lst (xs : List V)
  /-- a tuple (never changes) -/
  | tup (xs : List V)
  /-- a dict whose keys are ints and texts; one whose keys are tuples of ints and texts (the empty one is both) -/
  | dK (kvs : List (Key × V)) | dT (kvs : List (List Key × V))
  /-- a set of ints: its members, its size -/
  | set (S : Int → Bool) (n : Nat)
  /-- an instance of the class at C, its dict at dx, its attributes -/
  | ins (C dx : Addr) (fs : List (Str × V))
  /-- the dict of the instance at x -/
  | own (x : Addr)
  /-- the dict of an exception -/
  | xd (fs : List (Str × V))
  /-- a bound method, f of x -/
  | met (f x : Addr)
  /-- a range object lo, lo + 1, .. below hi -/
  | rng (lo hi : Int)
  /-- a thing that is known to the object (the script; a dict while a loop walks it): read, never written while it is so -/
  | frz (o : Obj) (u : HO)
  /-- a code object's table -/
  | tbl (ps : Array Value)
  /-- any other thing, by what is true of its one object (a def of one's own: SetO a S n := HO.ext fun h => ..) -/
  | ext (φ : Heap → Prop)

abbrev Hp := Addr → Option HO
def upd (H : Hp) (a : Addr) (o : HO) : Hp := fun b => if b = a then some o else H b
theorem upd_same {H : Hp} {a : Addr} {o : HO} : upd H a o a = some o := by unfold upd; rw [if_pos rfl]
theorem upd_ne {H : Hp} {a b : Addr} {o : HO} (h : b ≠ a) : upd H a o b = H b := by unfold upd; rw [if_neg h]
theorem ne_of {H : Hp} {a b : Addr} {o u : HO} (h : H a = some o) (h' : H b = some u) (d : o ≠ u) : a ≠ b := by
  intro e; subst e; rw [h] at h'; exact d (Option.some.inj h')
theorem ne_of_none {H : Hp} {a b : Addr} {o : HO} (h : H a = some o) (h' : H b = none) : a ≠ b := by
  intro e; subst e; rw [h] at h'; cases h'

section
variable (P : Program) (w : World)
def ObjOk (H : Hp) (h : Heap) (a : Addr) : HO → Prop
  | .lst xs => xs.length ≤ sizeLine ∧ ∃ (its : List Value) (n : Nat), Vals xs its ∧ h.get? a = some { cls := .type "list", data := .seq its.toArray n }
  | .tup xs => xs.length ≤ sizeLine ∧ ∃ its : List Value, Vals xs its ∧ IsTup h a its.toArray
  | .dK kvs => kvs.length ≤ sizeLine ∧ (a == sysModules) = false ∧ ∃ vs, KV kvs vs ∧ h.DictOf (mixKind P w) a vs
  | .dT kvs => kvs.length ≤ sizeLine ∧ (a == sysModules) = false ∧ ∃ xs : List (List Key × Addr × Value),
      Paired (fun (p : List Key × V) (q : List Key × Addr × Value) => p.1 = q.1 ∧ H q.2.1 = some (.tup (p.1.map kV)) ∧ RelV p.2 q.2.2) kvs xs ∧
      ∃ o es ep, h.get? a = some o ∧ o.ExactDict ∧ o.data = .dict es ep ∧ es.toList = xs.map (entryOfKey (tupleKind (mixKind P w))) ∧ (xs.map (·.1)).Nodup
  | .set S n => h.SetOf (intKind P w) a S n
  | .ins C dx fs => H dx = some (.own a) ∧ fs.length ≤ 1000 ∧ dx ≠ a ∧ h.get? a = some (PySem.W.instObj C dx) ∧
      ∃ mA, h.Ns1 dx mA ∧ (∀ f, RelO (fs.lookup f) (mA f)) ∧ PySem.Within mA (fs.map (·.1))
  | .own _ => ∃ o, h.get? a = some o
  | .xd fs => ∃ mA, h.Ns1 a mA ∧ ∀ f, RelO (fs.lookup f) (mA f)
  | .rng lo hi => ∃ t u v, h.get? a = some { cls := .type "range", data := .fields #[.int lo t, .int hi u, .int 1 v] }
  | .frz o u => h.get? a = some o ∧ ObjOk H h a u
  | .tbl ps => h.get? a = some { cls := .none, data := .fields ps }
  | .met f x => h.get? a = some (PySem.W.methodObj (.ref f) (.ref x))
  | .ext φ => φ h ∧ (∃ o, h.get? a = some o) ∧ ∀ h1 h2 : Heap, φ h1 → (∀ o, h1.get? a = some o → h2.get? a = some o) → φ h2
def HOk (H : Hp) (h : Heap) : Prop := ∀ a o, H a = some o → ObjOk P w H h a o
end

section
variable {P : Program} {w : World} {H H' : Hp} {h h' : Heap} {a : Addr} {o : HO}
theorem ObjOk.lt (x : ObjOk P w H h a o) : a < h.objs.size := by
  cases o with
  | lst xs => obtain ⟨_, _, _, _, e⟩ := x; exact Heap.lt_size e
  | tup xs => obtain ⟨_, _, _, p⟩ := x; exact p.lt
  | dK kvs => obtain ⟨_, _, _, _, o, _, _, e, _⟩ := x; exact Heap.lt_size e
  | dT kvs => obtain ⟨_, _, _, _, o, _, _, e, _⟩ := x; exact Heap.lt_size e
  | set S n => obtain ⟨o, _, _, _, e, _⟩ := x; exact Heap.lt_size e
  | ins C dx fs => obtain ⟨_, _, _, e, _⟩ := x; exact Heap.lt_size e
  | own y => obtain ⟨_, e⟩ := x; exact Heap.lt_size e
  | xd fs => obtain ⟨_, ⟨_, _, _, e, _⟩, _⟩ := x; exact Heap.lt_size e
  | rng lo hi => obtain ⟨_, _, _, e⟩ := x; exact Heap.lt_size e
  | frz ob u => obtain ⟨e, _⟩ := x; exact Heap.lt_size e
  | tbl ps => exact Heap.lt_size (show h.get? a = some _ from x)
  | met f y => exact Heap.lt_size (show h.get? a = some _ from x)
  | ext φ => obtain ⟨_, ⟨_, e⟩, _⟩ := x; exact Heap.lt_size e
theorem Paired.mapP {α β : Type} {F G : α → β → Prop} : ∀ {l₁ : List α} {l₂ : List β}, Paired F l₁ l₂ → (∀ a b, F a b → G a b) → Paired G l₁ l₂
  | _, _, .nil, _ => .nil
  | _, _, .cons r t, f => .cons (f _ _ r) (Paired.mapP t f)
theorem ObjOk.stay (x : ObjOk P w H h a o) (k : ∀ b u, (b = a ∨ H b = some (.own a)) → h.get? b = some u → h'.get? b = some u)
    (ho : ∀ b, H b = some (.own a) → H' b = some (.own a)) (ht : ∀ b xs, H b = some (.tup xs) → H' b = some (.tup xs)) : ObjOk P w H' h' a o := by
  induction o with
  | lst xs => obtain ⟨z, its, n, r, e⟩ := x; exact ⟨z, its, n, r, k _ _ (.inl rfl) e⟩
  | tup xs => obtain ⟨z, its, r, ob, e, c⟩ := x; exact ⟨z, its, r, ob, k _ _ (.inl rfl) e, c⟩
  | dK kvs => obtain ⟨z, y, vs, r, ob, es, ep, e, c⟩ := x; exact ⟨z, y, vs, r, ob, es, ep, k _ _ (.inl rfl) e, c⟩
  | dT kvs =>
    obtain ⟨z, y, xs, r, ob, es, ep, e, c⟩ := x
    exact ⟨z, y, xs, Paired.mapP r fun p q z => ⟨z.1, ht _ _ z.2.1, z.2.2⟩, ob, es, ep, k _ _ (.inl rfl) e, c⟩
  | set S n => obtain ⟨ob, es, ep, t, e, c⟩ := x; exact ⟨ob, es, ep, t, k _ _ (.inl rfl) e, c⟩
  | ins C dx fs =>
    obtain ⟨d, z, ne, e, mA, ⟨od, es, ep, e2, c⟩, r⟩ := x
    exact ⟨ho _ d, z, ne, k _ _ (.inl rfl) e, mA, ⟨od, es, ep, k _ _ (.inr d) e2, c⟩, r⟩
  | own y => obtain ⟨ob, e⟩ := x; exact ⟨ob, k _ _ (.inl rfl) e⟩
  | xd fs => obtain ⟨mA, ⟨od, es, ep, e, c⟩, r⟩ := x; exact ⟨mA, ⟨od, es, ep, k _ _ (.inl rfl) e, c⟩, r⟩
  | rng lo hi => obtain ⟨t, u, v, e⟩ := x; exact ⟨t, u, v, k _ _ (.inl rfl) e⟩
  | frz ob u ih => obtain ⟨e, q⟩ := x; exact ⟨k _ _ (.inl rfl) e, ih q⟩
  | tbl ps =>
    have e : h.get? a = some { cls := .none, data := .fields ps } := x
    show h'.get? a = some { cls := .none, data := .fields ps }
    exact k a _ (.inl rfl) e
  | met f y =>
    have e : h.get? a = some (PySem.W.methodObj (.ref f) (.ref y)) := x
    show h'.get? a = some (PySem.W.methodObj (.ref f) (.ref y))
    exact k a _ (.inl rfl) e
  | ext φ => obtain ⟨p, ⟨o, e⟩, st⟩ := x; exact ⟨st _ _ p fun o q => k _ _ (.inl rfl) q, ⟨o, k _ _ (.inl rfl) e⟩, st⟩
theorem HOk.lt (x : HOk P w H h) (e : H a = some o) : a < h.objs.size := (x a o e).lt
theorem HOk.fresh (x : HOk P w H h) (e : h.objs.size ≤ a) : H a = none := by
  cases q : H a with
  | none => rfl
  | some u => exact absurd (Nat.lt_of_lt_of_le (x.lt q) e) (Nat.lt_irrefl _)
theorem HOk.kept (x : HOk P w H h) (k : ∀ b u, h.get? b = some u → h'.get? b = some u) : HOk P w H h' := fun a o e =>
  (x a o e).stay (fun b u _ q => k b u q) (fun _ q => q) fun _ _ q => q
theorem HOk.laid (x : HOk P w H h) (k : ∀ b u, h.get? b = some u → h'.get? b = some u) (hp : h.objs.size ≤ a) (new : ObjOk P w (upd H a o) h' a o) : HOk P w (upd H a o) h' := fun b u e => by
  have hn := x.fresh hp
  by_cases hb : b = a
  · subst hb; rw [upd_same] at e; cases e; exact new
  · rw [upd_ne hb] at e
    exact (x b u e).stay (fun c v _ q => k c v q) (fun c q => by rw [upd_ne (ne_of_none q hn)]; exact q) fun c xs q => by rw [upd_ne (ne_of_none q hn)]; exact q
end

def Rd (H : Hp) (a : Addr) (u : HO) : Prop := H a = some u ∨ ∃ o, H a = some (.frz o u)
theorem Rd.of {H : Hp} {a : Addr} {u : HO} (h : H a = some u) : Rd H a u := .inl h
theorem Rd.ok {P : Program} {w : World} {H : Hp} {h : Heap} {a : Addr} {u : HO} (r : Rd H a u) (x : HOk P w H h) : ObjOk P w H h a u := by
  rcases r with r | ⟨o, r⟩
  · exact x a u r
  · obtain ⟨_, q⟩ := x a _ r
    exact q
def Mut : Option HO → Prop
  | some (.lst _) => True
  | some (.dK _) => True
  | some (.dT _) => True
  | some (.set _ _) => True
  | some (.ins _ _ _) => True
  | some (.ext _) => True
  | _ => False
section
variable {P : Program} {w : World} {H : Hp} {h h' : Heap} {x e : Addr} {o' : HO}
theorem HOk.write (ok : HOk P w H h) (mu : Mut (H x)) (he : e = x ∨ H e = some (.own x)) (k : ∀ b u, b ≠ e → h.get? b = some u → h'.get? b = some u) (heo : ∃ u, h'.get? e = some u)
    (new : ObjOk P w (upd H x o') h' x o') : HOk P w (upd H x o') h' := fun b u q => by
  have nown : ∀ c y, H c = some (.own y) → c ≠ x := fun c y r z => by subst z; rw [r] at mu; exact mu
  have ntup : ∀ c xs, H c = some (.tup xs) → c ≠ x := fun c xs r z => by subst z; rw [r] at mu; exact mu
  by_cases hb : b = x
  · subst hb; rw [upd_same] at q; cases q; exact new
  · rw [upd_ne hb] at q
    by_cases hbe : b = e
    · have q' : H b = some (.own x) := by
        rcases he with z | z
        · exact absurd (hbe.trans z) hb
        · rw [hbe]; exact z
      rw [q] at q'; cases q'
      obtain ⟨v, hv⟩ := heo
      exact ⟨v, by rw [hbe]; exact hv⟩
    · refine (ok b u q).stay (fun c v hc r => k c v ?_ r) (fun c r => by rw [upd_ne (nown c b r)]; exact r) fun c xs r => by rw [upd_ne (ntup c xs r)]; exact r
      rcases hc with rfl | hc
      · exact hbe
      · rintro rfl
        rcases he with z | z
        · exact nown c b hc z
        · rw [hc] at z; cases z; exact hb rfl
end

structure Un (fs ex : List Addr) (H H' : Hp) (h h' : Heap) : Prop where
  keep : ∀ b o, h.get? b = some o → H b = none → b ∉ fs → b ∉ ex → h'.get? b = some o
  slot : ∀ b o, h.get? b = some o → H b = none → b ∈ fs → b ∉ ex → ∃ sl, h'.get? b = some { o with slots := sl }
  free : ∀ b o, h.get? b = some o → H b = none → b ∉ ex → H' b = none
  there : ∀ b o, h.get? b = some o → b ∉ ex → ∃ o', h'.get? b = some o'
  tups : ∀ b xs, H b = some (.tup xs) → H' b = some (.tup xs)
  frzs : ∀ b o u, H b = some (.frz o u) → H' b = some (.frz o u)
  tbls : ∀ b ps, H b = some (.tbl ps) → ∃ more, H' b = some (.tbl (ps ++ more))
section
variable {fs fs' ex ex' : List Addr} {H H1 H2 : Hp} {h h1 h2 h' : Heap} {a x e : Addr} {o : HO}
theorem Un.any (u : Un fs ex H H1 h h1) {b : Addr} {ob : Obj} (q : h.get? b = some ob) (n : H b = none) (hx : b ∉ ex) : ∃ sl, h1.get? b = some { ob with slots := sl } := by
  by_cases hb : b ∈ fs
  · exact u.slot b ob q n hb hx
  · exact ⟨ob.slots, u.keep b ob q n hb hx⟩
theorem Un.trans (a : Un fs ex H H1 h h1) (b : Un fs ex H1 H2 h1 h2) : Un fs ex H H2 h h2 where
  keep := fun c ob q n hc hx => b.keep c ob (a.keep c ob q n hc hx) (a.free c ob q n hx) hc hx
  slot := fun c ob q n hc hx => by
    obtain ⟨sl, e1⟩ := a.slot c ob q n hc hx
    obtain ⟨sl', e2⟩ := b.slot c _ e1 (a.free c ob q n hx) hc hx
    exact ⟨sl', e2⟩
  free := fun c ob q n hx => by
    obtain ⟨o', e1⟩ := a.there c ob q hx
    exact b.free c o' e1 (a.free c ob q n hx) hx
  there := fun c ob q hx => by
    obtain ⟨o', e1⟩ := a.there c ob q hx
    exact b.there c o' e1 hx
  tups := fun c xs q => b.tups c xs (a.tups c xs q)
  frzs := fun c ob xs q => b.frzs c ob xs (a.frzs c ob xs q)
  tbls := fun c ps q => by
    obtain ⟨m1, e1⟩ := a.tbls c ps q
    obtain ⟨m2, e2⟩ := b.tbls c _ e1
    exact ⟨m1 ++ m2, by rw [e2, Array.append_assoc]⟩
theorem Un.kept (k : ∀ b u, h.get? b = some u → h'.get? b = some u) : Un fs ex H H h h' :=
  ⟨fun b ob q _ _ _ => k b ob q, fun b ob q _ _ _ => ⟨ob.slots, k b ob q⟩, fun _ _ _ n _ => n, fun b ob q _ => ⟨ob, k b ob q⟩, fun _ _ q => q, fun _ _ _ q => q, fun _ ps q => ⟨#[], by rw [q]; simp⟩⟩
theorem Un.refl : Un fs ex H H h h := Un.kept fun _ _ q => q
theorem Un.laid (k : ∀ b u, h.get? b = some u → h'.get? b = some u) (hp : h.objs.size ≤ a) (hn : H a = none) : Un fs ex H (upd H a o) h h' where
  keep := fun b u q _ _ _ => k b u q
  slot := fun b u q _ _ _ => ⟨u.slots, k b u q⟩
  free := fun b u q n _ => by rw [upd_ne (Nat.ne_of_lt (Nat.lt_of_lt_of_le (Heap.lt_size q) hp))]; exact n
  there := fun b u q _ => ⟨u, k b u q⟩
  tups := fun b xs q => by rw [upd_ne (ne_of_none q hn)]; exact q
  frzs := fun b u xs q => by rw [upd_ne (ne_of_none q hn)]; exact q
  tbls := fun b ps q => ⟨#[], by rw [upd_ne (ne_of_none q hn), q]; simp⟩
theorem Un.write (mu : Mut (H x)) (he : e = x ∨ H e = some (.own x)) (k : ∀ b u, b ≠ e → h.get? b = some u → h'.get? b = some u) (heo : ∃ u, h'.get? e = some u) : Un fs ex H (upd H x o) h h' := by
  have hx : ∀ b, H b = none → b ≠ x := fun b n z => by subst z; rw [n] at mu; exact mu
  have hb : ∀ b, H b = none → b ≠ e := fun b n z => by
    subst z
    rcases he with r | r
    · exact hx b n r
    · rw [n] at r; cases r
  have hm : ∀ b u, H b = some u → ¬ Mut (some u) → b ≠ x := fun b u q nm z => by subst z; rw [q] at mu; exact nm mu
  refine ⟨fun b u q n _ _ => k b u (hb b n) q, fun b u q n _ _ => ⟨u.slots, k b u (hb b n) q⟩, fun b u q n _ => by rw [upd_ne (hx b n)]; exact n, fun b u q _ => ?_,
    fun b xs q => by rw [upd_ne (hm b _ q fun z => z)]; exact q, fun b u xs q => by rw [upd_ne (hm b _ q fun z => z)]; exact q, fun b ps q => ⟨#[], by rw [upd_ne (hm b _ q fun z => z), q]; simp⟩⟩
  by_cases hbe : b = e
  · subst hbe; exact heo
  · exact ⟨u, k b u hbe q⟩
theorem Un.mono (u : Un fs ex H H1 h h1) (hs : ∀ b ∈ fs, b ∈ fs') (hx : ∀ b ∈ ex, b ∈ ex') : Un fs' ex' H H1 h h1 :=
  ⟨fun b ob q n hb he => u.keep b ob q n (fun z => hb (hs b z)) fun z => he (hx b z), fun _ _ q n _ he => u.any q n fun z => he (hx _ z), fun b ob q n he => u.free b ob q n fun z => he (hx b z), fun b ob q he => u.there b ob q fun z => he (hx b z), u.tups, u.frzs, u.tbls⟩
end

def trk (h : Heap) (H : Hp) : List Addr := (List.range h.objs.size).filter fun a => (H a).isSome
def hidT (h : Heap) (H : Hp) : Heap := PySem.W.hideAll h (trk h H)
theorem hidT_size (h : Heap) (H : Hp) : (hidT h H).objs.size = h.objs.size := PySem.W.hideAll_size _ _
theorem hidT_get {h : Heap} {H : Hp} {b : Addr} {o : Obj} (e : h.get? b = some o) (n : H b = none) : (hidT h H).get? b = some o :=
  PySem.W.hideAll_get _ e fun hm => by
    have q : (H b).isSome = true := (List.mem_filter.mp hm).2
    rw [n] at q; simp at q
theorem of_hidT {h : Heap} {H : Hp} {b : Addr} {o : Obj} (e : (hidT h H).get? b = some o) : h.get? b = some o ∧ H b = none := by
  have e' : h.get? b = some o := PySem.W.of_hideAll (trk h H) e
  refine ⟨e', ?_⟩
  cases q : H b with
  | none => rfl
  | some x =>
    have hm : b ∈ trk h H := List.mem_filter.mpr ⟨List.mem_range.mpr (Heap.lt_size e'), by simp [q]⟩
    have z : (hidT h H).get? b = none := PySem.W.hideAll_none (trk h H) hm
    rw [z] at e; cases e

def allNews (g h : Heap) (L : Addr) : List (Addr × Obj) := (List.range h.objs.size).filterMap fun a => if a = L ∨ (g.get? a).isSome = true then none else (h.get? a).map fun o => (a, o)
def rest (g h : Heap) (L d : Addr) : List (Addr × Obj) := (allNews g h L).filter fun p => decide (p.1 ≠ d)
end L2

namespace L2
open PySem PySem.Spec PyProof.Rows

structure Mod (K : PySem.W.Frag) (mg : Str → Option Value) (base : Heap) : Prop where
  kin : K.In base
  glob : base.Ns mainGlobals mg
  blt : ∃ mb, base.Ns builtinsNs mb ∧ ∀ x : Str, x ≠ "__name__" → mb x = bootBuiltins x
  nolimit : base.NoLimit

structure Cx where
  prog : Program
  w : World
  K : PySem.W.Frag
  mg : Str → Option Value
  base : Heap
  A : Around
  N : List Str
  s₀ : Shared
  H₀ : Hp
  env : Env
  outer : List Env
  stack : List Env
  ex : List Addr
  fn : Str → Bool
  calm : Bool
  pn : List (Addr × Obj)
  xe : Value → Shared → Prop
def frs (l : List Env) : List Addr := l.filterMap (·.frame)
abbrev Cx.fs (X : Cx) : List Addr := frs X.outer

def Vis (sc : Scope) (x : Str) : Prop := sc.names.lookup x = some .local ∨ sc.names.lookup x = some .cell ∨ sc.names.lookup x = some .free
def Loc (sc : Scope) (x : Str) : Prop := sc.names.lookup x = some .local ∨ sc.names.lookup x = some .cell
def Look (env : Env) (h : Heap) (m : Str → Option Value) (x : Str) (u : Value) : Prop :=
  (env.kindOf x = some .local ∧ m x = some u) ∨ ((env.kindOf x = some .cell ∨ env.kindOf x = some .free) ∧ ∃ c, env.cells.lookup x = some c ∧ h.IsCell c (some u))

structure Cx.Ok (X : Cx) : Prop where
  mod : Mod X.K X.mg X.base
  kind : X.env.scope.kind = .function
  glob : X.env.globals = mainGlobals
  blt : X.env.builtins = builtinsNs
  above : X.s₀.heap.objs.size ≤ X.env.locals
  inj : ∀ x y c, X.env.cells.lookup x = some c → X.env.cells.lookup y = some c → x = y
  has : ∀ x, (X.env.kindOf x = some .cell ∨ X.env.kindOf x = some .free) → ∃ c, X.env.cells.lookup x = some c
  cab : ∀ x c, X.fn x = true → X.env.cells.lookup x = some c → X.s₀.heap.objs.size ≤ c
  hd : X.calm = true → X.A.handled = none
  frames : X.A.frames = some X.stack
  stk : X.stack = X.outer ∨ (X.stack = X.env :: X.outer ∧ X.env.frame = some X.env.locals)
  exf : ∀ b ∈ X.ex, b ≠ X.env.locals ∧ ∀ x c, X.env.cells.lookup x = some c → c ≠ b
  bs : ∀ b o, X.base.get? b = some o → X.s₀.heap.get? b = some o ∧ X.H₀ b = none
  bsz : X.base.objs.size ≤ X.s₀.heap.objs.size
  noex : ∀ b o, X.base.get? b = some o → b ∉ X.ex
  exfs : ∀ b ∈ X.ex, b ∉ X.fs
  funs : X.s₀.heap.FunFrames X.base X.outer
  frf : ∀ b ∈ X.fs, X.H₀ b = none

structure Inv (X : Cx) (pins : List (Addr × Obj)) (σ : List (Option V)) (H : Hp) (s : Shared) : Prop where
  ok : X.Ok
  os : s.os = X.s₀.os
  bare : AllBare s.gens
  base : Un X.fs X.ex X.H₀ H X.s₀.heap s.heap
  loc : ∃ m, s.heap.Ns X.env.locals m ∧ ∀ (i : Nat) (x : Str) (v : V), X.N[i]? = some x → σ[i]? = some (some v) → Vis X.env.scope x → ∃ u, RelV v u ∧ Look X.env s.heap m x u
  cell : ∀ x c, X.env.cells.lookup x = some c → ∃ v, s.heap.IsCell c v
  free : H X.env.locals = none
  freeC : ∀ x c, X.env.cells.lookup x = some c → H c = none
  pin : ∀ p ∈ X.pn ++ pins, s.heap.get? p.1 = some p.2 ∧ H p.1 = none ∧ p.1 ≠ X.env.locals ∧ p.1 ∉ X.fs ∧ ∀ v, p.2.data ≠ .cell v
  hok : HOk X.prog X.w H s.heap
  len : σ.length = X.N.length

section
variable {X : Cx} {pins : List (Addr × Obj)} {σ : List (Option V)} {H H' : Hp} {s : Shared} {h' : Heap}

theorem Cx.Ok.nofr (ok : X.Ok) {b : Addr} {o : Obj} (e : X.base.get? b = some o) : b ∉ X.fs := fun hb => by
  have := (ok.funs.mem hb).1
  rw [e] at this; cases this
theorem Inv.bs (I : Inv X pins σ H s) : ∀ b o, X.base.get? b = some o → s.heap.get? b = some o ∧ H b = none := fun b o e =>
  ⟨I.base.keep b o (I.ok.bs b o e).1 (I.ok.bs b o e).2 (I.ok.nofr e) (I.ok.noex b o e), I.base.free b o (I.ok.bs b o e).1 (I.ok.bs b o e).2 (I.ok.noex b o e)⟩
theorem Inv.bk (I : Inv X pins σ H s) : ∀ b o, X.base.get? b = some o → s.heap.get? b = some o := fun b o e => (I.bs b o e).1
theorem Inv.mod (I : Inv X pins σ H s) : Mod X.K X.mg X.base := I.ok.mod
theorem Inv.kIn (I : Inv X pins σ H s) : X.K.In s.heap := I.ok.mod.kin.keeps I.bk
theorem Inv.nolimit (I : Inv X pins σ H s) : s.heap.NoLimit := I.ok.mod.nolimit.keeps I.bk
theorem Inv.fr (I : Inv X pins σ H s) : ∃ m, Fr X.base X.env.locals s.heap m :=
  let ⟨m, hn, _⟩ := I.loc
  ⟨m, hn, I.bk, Nat.le_trans I.ok.bsz I.ok.above⟩
theorem Inv.lt (I : Inv X pins σ H s) : X.env.locals < s.heap.objs.size := let ⟨_, hn, _⟩ := I.loc; hn.lt
theorem Inv.sz (I : Inv X pins σ H s) : X.s₀.heap.objs.size ≤ s.heap.objs.size := Nat.le_trans I.ok.above (Nat.le_of_lt I.lt)
theorem Inv.nofs (I : Inv X pins σ H s) {a : Addr} (h : s.heap.objs.size ≤ a) : a ∉ X.fs := fun hb => by
  obtain ⟨_, o, ho, _⟩ := I.ok.funs.mem hb
  exact absurd (Nat.lt_of_lt_of_le (Heap.lt_size ho) (Nat.le_trans I.sz h)) (Nat.lt_irrefl _)
theorem Inv.cne (I : Inv X pins σ H s) : ∀ x c, X.env.cells.lookup x = some c → c ≠ X.env.locals := fun x c e z => by
  obtain ⟨v, o, ho, hd⟩ := I.cell x c e
  obtain ⟨m, ⟨o', es, ep, ho', hd', _⟩, _⟩ := I.loc
  rw [z, ho'] at ho; cases ho; rw [hd'] at hd; cases hd
theorem Inv.funs (I : Inv X pins σ H s) : s.heap.FunFrames X.base X.outer := by
  have all : ∀ (l : List Env), (∀ b ∈ frs l, b ∈ X.fs) → X.s₀.heap.FunFrames X.base l → s.heap.FunFrames X.base l := by
    intro l
    induction l with
    | nil => intro _ _; trivial
    | cons env r ih =>
      intro hs hl
      obtain ⟨hk, ⟨L, o, hf, hn, ho, hd⟩, hr⟩ := hl
      have hL : L ∈ X.fs := hs L (by unfold frs; rw [List.filterMap_cons, hf]; exact List.mem_cons_self)
      obtain ⟨sl, e⟩ := I.base.slot L o ho (I.ok.frf L hL) hL fun z => I.ok.exfs L z hL
      exact ⟨hk, ⟨L, _, hf, hn, e, hd⟩, ih (fun b hb => hs b (by unfold frs; rw [List.filterMap_cons, hf]; exact List.mem_cons_of_mem _ hb)) hr⟩
  exact all X.outer (fun _ hb => hb) I.ok.funs

theorem Inv.stack (I : Inv X pins σ H s) : s.heap.FunFrames X.base X.stack := by
  rcases I.ok.stk with e | ⟨e, hf⟩
  · rw [e]; exact I.funs
  · rw [e]
    obtain ⟨m, hn, _⟩ := I.loc
    refine .cons (by rw [I.ok.kind]; decide) hf hn ?_ I.funs
    exact Heap.get?_none_of_le (Nat.le_trans I.ok.bsz I.ok.above)
theorem Inv.stkSub (I : Inv X pins σ H s) : ∀ b ∈ frs X.stack, b ∈ X.env.locals :: X.fs := fun b hb => by
  rcases I.ok.stk with e | ⟨e, hf⟩
  · rw [e] at hb; exact List.mem_cons_of_mem _ hb
  · rw [e] at hb
    unfold frs at hb
    rw [List.filterMap_cons, hf] at hb
    exact hb
theorem Inv.stkFree (I : Inv X pins σ H s) : ∀ b ∈ frs X.stack, H b = none := fun b hb => by
  rcases List.mem_cons.mp (I.stkSub b hb) with e | hb
  · rw [e]; exact I.free
  · obtain ⟨_, o, ho, _⟩ := I.ok.funs.mem hb
    exact I.base.free b o ho (I.ok.frf b hb) fun z => I.ok.exfs b z hb

theorem Inv.step {g' : Array GenState} {t' : Nat} {d' : Drawn} {ch : List Addr} (I : Inv X pins σ H s)
    (hch : ∀ b ∈ ch, (b ∈ X.ex ∨ X.s₀.heap.objs.size ≤ b) ∧ b ≠ X.env.locals ∧ (∀ x c, X.env.cells.lookup x = some c → c ≠ b) ∧ ∀ p ∈ X.pn ++ pins, p.1 ≠ b)
    (keep : ∀ b o, b ≠ X.env.locals → b ∉ X.fs → b ∉ ch → s.heap.get? b = some o → H b = none → h'.get? b = some o)
    (slot : ∀ b o, b ≠ X.env.locals → b ∈ X.fs → b ∉ ch → s.heap.get? b = some o → H b = none → ∃ sl, h'.get? b = some { o with slots := sl }) (free : ∀ b o, b ∉ ch → s.heap.get? b = some o → H b = none → H' b = none)
    (there : ∀ b o, b ∉ ch → s.heap.get? b = some o → ∃ o', h'.get? b = some o')
    (tups : ∀ b xs, H b = some (.tup xs) → H' b = some (.tup xs)) (frzs : ∀ b o u, H b = some (.frz o u) → H' b = some (.frz o u)) (tbls : ∀ b ps, H b = some (.tbl ps) → ∃ more, H' b = some (.tbl (ps ++ more)))
    (ns : ∀ m, s.heap.Ns X.env.locals m → h'.Ns X.env.locals m) (hok : HOk X.prog X.w H' h') (hg : AllBare g') :
    Inv X pins σ H' { s with heap := h', gens := g', drawn := d', toks := t' } := by
  have neL : ∀ b o, X.s₀.heap.get? b = some o → b ≠ X.env.locals := fun b o e => Nat.ne_of_lt (Nat.lt_of_lt_of_le (Heap.lt_size e) I.ok.above)
  have neC : ∀ b o, X.s₀.heap.get? b = some o → b ∉ X.ex → b ∉ ch := fun b o e hx hb => by
    rcases (hch b hb).1 with z | z
    · exact hx z
    · exact absurd (Nat.lt_of_lt_of_le (Heap.lt_size e) z) (Nat.lt_irrefl _)
  have cellK : ∀ x c, X.env.cells.lookup x = some c → ∀ v, s.heap.IsCell c v → h'.IsCell c v := fun x c e v ⟨o, ho, hd⟩ => by
    have nch : c ∉ ch := fun z => (hch c z).2.2.1 x c e rfl
    by_cases hc : c ∈ X.fs
    · obtain ⟨sl, q⟩ := slot c o (I.cne x c e) hc nch ho (I.freeC x c e)
      exact ⟨_, q, hd⟩
    · exact ⟨o, keep c o (I.cne x c e) hc nch ho (I.freeC x c e), hd⟩
  refine ⟨I.ok, I.os, hg, ⟨fun b o e n hb hx => ?_, fun b o e n hb hx => ?_, fun b o e n hx => ?_, fun b o e hx => ?_, fun b xs e => tups b xs (I.base.tups b xs e), fun b o xs e => frzs b o xs (I.base.frzs b o xs e), fun b ps e => ?_⟩, ?_, fun x c e => ?_, ?_, fun x c e => ?_, fun p hp => ?_, hok, I.len⟩
  · exact keep b o (neL b o e) hb (neC b o e hx) (I.base.keep b o e n hb hx) (I.base.free b o e n hx)
  · obtain ⟨sl, e1⟩ := I.base.slot b o e n hb hx
    obtain ⟨sl', e2⟩ := slot b _ (neL b o e) hb (neC b o e hx) e1 (I.base.free b o e n hx)
    exact ⟨sl', e2⟩
  · obtain ⟨o', e1⟩ := I.base.there b o e hx
    exact free b o' (neC b o e hx) e1 (I.base.free b o e n hx)
  · obtain ⟨o', e1⟩ := I.base.there b o e hx
    exact there b o' (neC b o e hx) e1
  · obtain ⟨m1, e1⟩ := I.base.tbls b ps e
    obtain ⟨m2, e2⟩ := tbls b _ e1
    exact ⟨m1 ++ m2, by rw [e2, Array.append_assoc]⟩
  · obtain ⟨m, hn, hl⟩ := I.loc
    refine ⟨m, ns m hn, fun i x v e1 e2 e3 => ?_⟩
    obtain ⟨u, r, l⟩ := hl i x v e1 e2 e3
    refine ⟨u, r, ?_⟩
    rcases l with l | ⟨k, c, e, z⟩
    · exact .inl l
    · exact .inr ⟨k, c, e, cellK x c e _ z⟩
  · obtain ⟨v, z⟩ := I.cell x c e
    exact ⟨v, cellK x c e v z⟩
  · obtain ⟨m, ⟨o, _, _, ho, _⟩, _⟩ := I.loc
    exact free _ o (fun z => (hch _ z).2.1 rfl) ho I.free
  · obtain ⟨v, o, ho, hd⟩ := I.cell x c e
    exact free c o (fun z => (hch c z).2.2.1 x c e rfl) ho (I.freeC x c e)
  · obtain ⟨e, n, ne, nf, d⟩ := I.pin p hp
    have nch : p.1 ∉ ch := fun z => (hch p.1 z).2.2.2 p hp rfl
    exact ⟨keep p.1 p.2 ne nf nch e n, free p.1 p.2 nch e n, ne, nf, d⟩
theorem Inv.un {t' : Nat} (I : Inv X pins σ H s) (u : Un X.fs [] H H' s.heap h') (hok : HOk X.prog X.w H' h') : Inv X pins σ H' { s with heap := h', toks := t' } := by
  obtain ⟨m, ⟨o, es, ep, ho, r⟩, _⟩ := id I.loc
  obtain ⟨sl, hL⟩ := u.any ho I.free (by simp)
  exact I.step (g' := s.gens) (d' := s.drawn) (ch := []) (fun _ z => nomatch z) (fun b o _ hb _ e n => u.keep b o e n hb (by simp)) (fun b o _ hb _ e n => u.slot b o e n hb (by simp)) (fun b o _ e n => u.free b o e n (by simp)) (fun b o _ e => u.there b o e (by simp)) u.tups u.frzs u.tbls (fun m' hm => by
    obtain ⟨o', es', ep', ho', r'⟩ := hm
    rw [ho] at ho'; cases ho'
    exact ⟨_, es', ep', hL, r'⟩) hok I.bare
theorem Inv.call {g' : Array GenState} {t' : Nat} {d' : Drawn} {ch : List Addr} (I : Inv X pins σ H s) (u : Un (frs X.stack) ch H H' s.heap h') (hok : HOk X.prog X.w H' h') (hg : AllBare g')
    (hch : ∀ b ∈ ch, (b ∈ X.ex ∨ X.s₀.heap.objs.size ≤ b) ∧ b ≠ X.env.locals ∧ (∀ x c, X.env.cells.lookup x = some c → c ≠ b) ∧ ∀ p ∈ X.pn ++ pins, p.1 ≠ b) :
    Inv X pins σ H' { s with heap := h', gens := g', drawn := d', toks := t' } := by
  obtain ⟨m, ⟨o, es, ep, ho, r⟩, _⟩ := id I.loc
  obtain ⟨sl, hL⟩ := u.any ho I.free fun z => (hch _ z).2.1 rfl
  exact I.step (ch := ch) hch (fun b o hL hb hc e n => u.keep b o e n (fun z => (List.mem_cons.mp (I.stkSub b z)).elim hL hb) hc) (fun b o _ _ hc e n => u.any e n hc) (fun b o hc e n => u.free b o e n hc) (fun b o hc e => u.there b o e hc) u.tups u.frzs u.tbls (fun m' hm => by
    obtain ⟨o', es', ep', ho', r'⟩ := hm
    rw [ho] at ho'; cases ho'
    exact ⟨_, es', ep', hL, r'⟩) hok hg
theorem Inv.turned {t' : Nat} {it : Addr} (I : Inv X pins σ H s) (k : ∀ b o, b ≠ it → s.heap.get? b = some o → h'.get? b = some o) (hn : H it = none) (hL : it ≠ X.env.locals)
    (h1 : it ∈ X.ex ∨ X.s₀.heap.objs.size ≤ it) (h2 : ∀ x c, X.env.cells.lookup x = some c → c ≠ it) (h3 : ∀ p ∈ X.pn ++ pins, p.1 ≠ it) : Inv X pins σ H { s with heap := h', toks := t' } := by
  have nit : ∀ b u, H b = some u → b ≠ it := fun b u e z => by rw [z, hn] at e; cases e
  refine I.step (g' := s.gens) (d' := s.drawn) (ch := [it]) (fun b hb => ?_) (fun b o _ _ hc e _ => k b o (fun z => hc (by simp [z])) e) (fun b o _ _ hc e _ => ⟨o.slots, k b o (fun z => hc (by simp [z])) e⟩) (fun _ _ _ _ n => n)
    (fun b o hc e => ⟨o, k b o (fun z => hc (by simp [z])) e⟩) (fun _ _ e => e) (fun _ _ _ e => e) (fun b ps e => ⟨#[], by rw [e]; simp⟩) (fun m hm => ?_) (fun b u e => ?_) I.bare
  · have e : b = it := by simpa using hb
    subst e
    exact ⟨h1, hL, h2, h3⟩
  · obtain ⟨o, es, ep, ho, r⟩ := hm
    exact ⟨o, es, ep, k _ o (Ne.symm hL) ho, r⟩
  · refine (I.hok b u e).stay (fun c v hc q => k c v ?_ q) (fun _ q => q) fun _ _ q => q
    rcases hc with z | z
    · rw [z]; exact nit b u e
    · exact nit c _ z
theorem Inv.tok (I : Inv X pins σ H s) (t : Nat) : Inv X pins σ H { s with toks := t } := I.un (h' := s.heap) (t' := t) Un.refl I.hok
theorem Inv.kept {t' : Nat} (I : Inv X pins σ H s) (k : ∀ b u, s.heap.get? b = some u → h'.get? b = some u) : Inv X pins σ H { s with heap := h', toks := t' } := I.un (Un.kept k) (I.hok.kept k)
theorem Inv.laid {a : Addr} {o : HO} {t' : Nat} (I : Inv X pins σ H s) (k : ∀ b u, s.heap.get? b = some u → h'.get? b = some u) (hp : s.heap.objs.size ≤ a) (new : ObjOk X.prog X.w (upd H a o) h' a o) :
    Inv X pins σ (upd H a o) { s with heap := h', toks := t' } := I.un (Un.laid k hp (I.hok.fresh hp)) (I.hok.laid k hp new)
theorem Inv.write {x e : Addr} {o : HO} {t' : Nat} (I : Inv X pins σ H s) (mu : Mut (H x)) (he : e = x ∨ H e = some (.own x)) (k : ∀ b u, b ≠ e → s.heap.get? b = some u → h'.get? b = some u) (heo : ∃ u, h'.get? e = some u)
    (new : ObjOk X.prog X.w (upd H x o) h' x o) : Inv X pins σ (upd H x o) { s with heap := h', toks := t' } := I.un (Un.write mu he k heo) (I.hok.write mu he k heo new)
theorem Inv.pins_of {pins' : List (Addr × Obj)} (I : Inv X pins σ H s) (h : ∀ p ∈ pins', s.heap.get? p.1 = some p.2 ∧ H p.1 = none ∧ p.1 ≠ X.env.locals ∧ p.1 ∉ X.fs ∧ ∀ v, p.2.data ≠ .cell v) : Inv X pins' σ H s :=
  ⟨I.ok, I.os, I.bare, I.base, I.loc, I.cell, I.free, I.freeC, fun p hp => (List.mem_append.mp hp).elim (fun z => I.pin p (List.mem_append_left _ z)) (h p), I.hok, I.len⟩

theorem nodup_ix {N : List Str} (hN : N.Nodup) {i j : Nat} {x : Str} (a : N[i]? = some x) (b : N[j]? = some x) : i = j := by
  obtain ⟨h1, e1⟩ := List.getElem?_eq_some_iff.mp a
  obtain ⟨h2, e2⟩ := List.getElem?_eq_some_iff.mp b
  exact (List.getElem_inj hN).mp (e1.trans e2.symm)

theorem store_ok2 {M : Model} {A : Around} {E : Value → Shared → Prop} {i : Nat} {x : Str} {v : V} {u : Value} {Q : Unit → Shared → Prop} (I : Inv X pins σ H s) (hN : X.N.Nodup) (hi : X.N[i]? = some x) (hx : Loc X.env.scope x) (r : RelV v u)
    (h : ∀ s', Inv X pins (σ.set i (some v)) H s' → (∃ a, Heap.SameBut a s.heap s'.heap ∧ (a = X.env.locals ∨ X.env.cells.lookup x = some a)) → Q () s') (hf : X.fn x = true ∨ X.env.scope.names.lookup x = some .local := by first | exact .inl rfl | exact .inr rfl | assumption) : wpAny M A (storeName X.env x u) Q E s := by
  obtain ⟨m, hn, hl⟩ := id I.loc
  have hcls : (X.env.scope.kind == .class || (X.env.scope.kind == .module && X.env.locals != X.env.globals)) = false := by rw [I.ok.kind]; rfl
  have hiσ : i < σ.length := by rw [I.len]; exact (List.getElem?_eq_some_iff.mp hi).1
  have cne := I.cne
  have tracked : ∀ {a : Addr} {h' : Heap}, (∃ o, s.heap.get? a = some o ∧ H a = none) → Heap.SameBut a s.heap h' → HOk X.prog X.w H h' := fun {a h'} ha hs b ob e => by
    obtain ⟨_, _, hfree⟩ := ha
    refine (I.hok b ob e).stay (fun c w' hc q => (hs.2 c ?_).trans q) (fun _ q => q) fun _ _ q => q
    rintro rfl
    rcases hc with rfl | hc
    · rw [hfree] at e; cases e
    · rw [hfree] at hc; cases hc
  rcases hx with hk | hk
  · refine wpAny_storeName_local hk hn (fun h' hn' hs => ?_) hcls
    obtain ⟨oL, _, _, hoL, _⟩ := id hn
    refine h _ ⟨I.ok, I.os, I.bare, ⟨fun b o e n hb hx => ?_, fun b o e n hb hx => ?_, I.base.free, fun b o e hx => ?_, I.base.tups, I.base.frzs, I.base.tbls⟩, ⟨_, hn', fun j y v' e1 e2 e3 => ?_⟩, fun y c e => ?_, I.free, I.freeC, fun p hp => ?_, tracked ⟨oL, hoL, I.free⟩ hs, by simpa using I.len⟩ ⟨_, hs, .inl rfl⟩
    · exact (hs.2 b (Nat.ne_of_lt (Nat.lt_of_lt_of_le (Heap.lt_size e) I.ok.above))).trans (I.base.keep b o e n hb hx)
    · obtain ⟨sl, e1⟩ := I.base.slot b o e n hb hx
      exact ⟨sl, (hs.2 b (Nat.ne_of_lt (Nat.lt_of_lt_of_le (Heap.lt_size e) I.ok.above))).trans e1⟩
    · obtain ⟨o', e1⟩ := I.base.there b o e hx
      exact ⟨o', (hs.2 b (Nat.ne_of_lt (Nat.lt_of_lt_of_le (Heap.lt_size e) I.ok.above))).trans e1⟩
    · by_cases hj : j = i
      · subst hj
        rw [hi] at e1; cases e1
        rw [List.getElem?_set_self hiσ] at e2
        cases e2
        exact ⟨u, r, .inl ⟨hk, by simp⟩⟩
      · rw [List.getElem?_set_ne (Ne.symm hj)] at e2
        obtain ⟨u', r', q⟩ := hl j y v' e1 e2 e3
        refine ⟨u', r', ?_⟩
        rcases q with ⟨k, e⟩ | ⟨k, c, e, z⟩
        · refine .inl ⟨k, ?_⟩
          have : y ≠ x := fun e => hj (nodup_ix hN e1 (e ▸ hi))
          simp [this, e]
        · exact .inr ⟨k, c, e, z.sameBut hs (cne y c e)⟩
    · obtain ⟨w', z⟩ := I.cell y c e
      exact ⟨w', z.sameBut hs (cne y c e)⟩
    · obtain ⟨e, n, ne, nf, d⟩ := I.pin p hp
      exact ⟨(hs.2 p.1 ne).trans e, n, ne, nf, d⟩
  · have hfn : X.fn x = true := by
      rcases hf with z | z
      · exact z
      · rw [z] at hk; cases hk
    obtain ⟨c, hc⟩ := I.ok.has x (.inl hk)
    obtain ⟨w', z⟩ := I.cell x c hc
    refine wpAny_storeName_cell I.ok.kind hk hc z (fun h' hc' hs => ?_)
    obtain ⟨oc, hoc, hocd⟩ := id z
    refine h { s with heap := h' } ⟨I.ok, I.os, I.bare, ⟨fun b o e n hb hx => ?_, fun b o e n hb hx => ?_, I.base.free, fun b o e hx => ?_, I.base.tups, I.base.frzs, I.base.tbls⟩, ⟨m, hn.sameBut hs (Ne.symm (cne x c hc)), fun j y v' e1 e2 e3 => ?_⟩, fun y c' e => ?_, I.free, I.freeC, fun p hp => ?_, tracked ⟨oc, hoc, I.freeC x c hc⟩ hs, by simpa using I.len⟩ ⟨c, hs, .inr hc⟩
    · exact (hs.2 b (Nat.ne_of_lt (Nat.lt_of_lt_of_le (Heap.lt_size e) (I.ok.cab x c hfn hc)))).trans (I.base.keep b o e n hb hx)
    · obtain ⟨sl, e1⟩ := I.base.slot b o e n hb hx
      exact ⟨sl, (hs.2 b (Nat.ne_of_lt (Nat.lt_of_lt_of_le (Heap.lt_size e) (I.ok.cab x c hfn hc)))).trans e1⟩
    · obtain ⟨o', e1⟩ := I.base.there b o e hx
      exact ⟨o', (hs.2 b (Nat.ne_of_lt (Nat.lt_of_lt_of_le (Heap.lt_size e) (I.ok.cab x c hfn hc)))).trans e1⟩
    · by_cases hj : j = i
      · subst hj
        rw [hi] at e1; cases e1
        rw [List.getElem?_set_self hiσ] at e2
        cases e2
        exact ⟨u, r, .inr ⟨.inl hk, c, hc, hc'⟩⟩
      · rw [List.getElem?_set_ne (Ne.symm hj)] at e2
        obtain ⟨u', r', q⟩ := hl j y v' e1 e2 e3
        refine ⟨u', r', ?_⟩
        rcases q with q | ⟨k, c', e, z'⟩
        · exact .inl q
        · refine .inr ⟨k, c', e, z'.sameBut hs ?_⟩
          rintro rfl
          exact hj (nodup_ix hN e1 (I.ok.inj _ _ _ e hc ▸ hi))
    · by_cases hcc : c' = c
      · subst hcc; exact ⟨_, hc'⟩
      · obtain ⟨w2, z2⟩ := I.cell y c' e
        exact ⟨w2, z2.sameBut hs hcc⟩
    · obtain ⟨e, n, ne, nf, d⟩ := I.pin p hp
      refine ⟨(hs.2 p.1 ?_).trans e, n, ne, nf, d⟩
      intro q
      rw [q, hoc] at e
      have q' : oc = p.2 := Option.some.inj e
      exact d w' (by rw [← q']; exact hocd)
theorem store_ok {M : Model} {A : Around} {E : Value → Shared → Prop} {i : Nat} {x : Str} {v : V} {u : Value} {Q : Unit → Shared → Prop} (I : Inv X pins σ H s) (hN : X.N.Nodup) (hi : X.N[i]? = some x) (hx : Loc X.env.scope x) (r : RelV v u)
    (h : ∀ s', Inv X pins (σ.set i (some v)) H s' → Q () s') (hf : X.fn x = true ∨ X.env.scope.names.lookup x = some .local := by first | exact .inl rfl | exact .inr rfl | assumption) : wpAny M A (storeName X.env x u) Q E s :=
  store_ok2 I hN hi hx r (fun s' I' _ => h s' I') hf
theorem Inv.call' {s' : Shared} {ch : List Addr} (I : Inv X pins σ H s) (ho : s'.os = s.os) (u : Un (frs X.stack) ch H H' s.heap s'.heap) (hok : HOk X.prog X.w H' s'.heap) (hg : AllBare s'.gens)
    (hch : ∀ b ∈ ch, (b ∈ X.ex ∨ X.s₀.heap.objs.size ≤ b) ∧ b ≠ X.env.locals ∧ (∀ x c, X.env.cells.lookup x = some c → c ≠ b) ∧ ∀ p ∈ X.pn ++ pins, p.1 ≠ b) : Inv X pins σ H' s' := by
  obtain ⟨h', g', d', t', o'⟩ := s'
  have e : o' = s.os := ho
  subst e
  exact I.call (g' := g') (t' := t') (d' := d') u hok hg hch
end

abbrev XK := Value → Option Addr → Hp → Prop
abbrev St := List (Option V)
abbrev VK := V → Hp → Prop
abbrev TE := St → Hp → VK → Prop
abbrev TT := St → Hp → (Bool → Hp → Prop) → Prop
abbrev TA := St → Hp → (List V → Hp → Prop) → Prop
structure Ends where
  nx : St → Hp → Prop
  rt : VK
  bk : St → Hp → Prop := fun _ _ => False
  ct : St → Hp → Prop := fun _ _ => False
abbrev TS := Ends → St → Hp → Prop

def EP (X : Cx) (pins : List (Addr × Obj)) (σ : St) (Q : VK) (u : Value) (s' : Shared) : Prop := ∃ v H', Inv X pins σ H' s' ∧ RelV v u ∧ Q v H'
def TP (X : Cx) (pins : List (Addr × Obj)) (σ : St) (Q : Bool → Hp → Prop) (b : Bool) (s' : Shared) : Prop := ∃ H', Inv X pins σ H' s' ∧ Q b H'
def AP (X : Cx) (pins : List (Addr × Obj)) (σ : St) (Q : List V → Hp → Prop) (us : List Value) (s' : Shared) : Prop := ∃ vs H', Inv X pins σ H' s' ∧ Vals vs us ∧ Q vs H'
def SP (X : Cx) (pins : List (Addr × Obj)) (D : Ends) (f : Flow) (s' : Shared) : Prop :=
  match f with
  | .next => ∃ σ' H', Inv X pins σ' H' s' ∧ D.nx σ' H'
  | .brk => ∃ σ' H', Inv X pins σ' H' s' ∧ D.bk σ' H'
  | .cont => ∃ σ' H', Inv X pins σ' H' s' ∧ D.ct σ' H'
  | .ret u => ∃ v σ' H', Inv X pins σ' H' s' ∧ RelV v u ∧ D.rt v H'

def PE (X : Cx) (e : Expr) (t : TE) : Prop :=
  ∀ (pins : List (Addr × Obj)) (s : Shared) (σ : St) (H : Hp) (Q : VK), Inv X pins σ H s → t σ H Q → wpAny (model X.prog X.w) X.A (eval e X.env) (EP X pins σ Q) X.xe s
def PT (X : Cx) (e : Expr) (t : TT) : Prop :=
  ∀ (pins : List (Addr × Obj)) (s : Shared) (σ : St) (H : Hp) (Q : Bool → Hp → Prop), Inv X pins σ H s → t σ H Q → wpAny (model X.prog X.w) X.A (isTrue e X.env (eval e X.env)) (TP X pins σ Q) X.xe s
def PW (X : Cx) (e : Expr) (t : TT) : Prop :=
  ∀ (whole : Sem Value) (pins : List (Addr × Obj)) (s : Shared) (σ : St) (H : Hp) (Q : Bool → Hp → Prop), Inv X pins σ H s → t σ H Q → wpAny (model X.prog X.w) X.A (isTrue e X.env whole) (TP X pins σ Q) X.xe s
theorem PW.pt {X : Cx} {e : Expr} {t : TT} (h : PW X e t) : PT X e t := h _
def PA (X : Cx) (es : List Expr) (t : TA) : Prop :=
  ∀ (pos : Pos) (pins : List (Addr × Obj)) (s : Shared) (σ : St) (H : Hp) (Q : List V → Hp → Prop), Inv X pins σ H s → t σ H Q → wpAny (model X.prog X.w) X.A (spliced (backTo pos (starEach es X.env))) (AP X pins σ Q) X.xe s
def PS (X : Cx) (st : Stmt) (t : TS) : Prop :=
  ∀ (pins : List (Addr × Obj)) (s : Shared) (σ : St) (H : Hp) (D : Ends), Inv X pins σ H s → t D σ H → wpAny (model X.prog X.w) X.A (exec st X.env) (SP X pins D) X.xe s
def PSs (X : Cx) (st : List Stmt) (t : TS) : Prop :=
  ∀ (pins : List (Addr × Obj)) (s : Shared) (σ : St) (H : Hp) (D : Ends), Inv X pins σ H s → t D σ H → wpAny (model X.prog X.w) X.A (execs st X.env) (SP X pins D) X.xe s
theorem thn {α : Type} {t : Sem α} {Q Q' : α → Shared → Prop} {M : Model} {A : Around} {E : Value → Shared → Prop} {s : Shared} (h : wpAny M A t Q E s) (hQ : ∀ a s, Q a s → Q' a s) : wpAny M A t Q' E s := wpAny_mono h hQ fun _ _ x => x
end L2

namespace L2
open PySem PySem.Spec PyProof.Rows
section
variable {X : Cx}

def tVar (i : Nat) : TE := fun σ H Q => ∃ v, σ[i]? = some (some v) ∧ Q v H
def tC (v : V) : TE := fun _ H Q => Q v H
theorem pe_var {i : Nat} {x : Str} {pos : Pos} (hN : X.N[i]? = some x) (hv : Vis X.env.scope x) (hd : (x == ("__debug__" : Str)) = false := by decide) (hcd : (x == ("__classdict__" : Str)) = false := by decide) : PE X (.Name x pos) (tVar i) := by
  intro pins s σ H Q I h
  obtain ⟨v, e, h⟩ := h
  obtain ⟨m, hn, hl⟩ := I.loc
  obtain ⟨u, r, l⟩ := hl i x v hN e hv
  have fin : EP X pins σ Q u s := ⟨v, H, I, r, h⟩
  rcases l with ⟨hk, hm⟩ | ⟨hk, c, hc, hcell⟩
  · exact wpAny_Name (wpAny_loadName_local I.ok.kind hk hn hm fin) hd
  · rcases hk with hk | hk
    · exact wpAny_Name (wpAny_loadName_cell I.ok.kind hk hc hcell fin) hd
    · exact wpAny_Name (wpAny_loadName_free I.ok.kind hk hc hcell fin hcd) hd
theorem pe_int {i j pos} : PE X (.Constant (.int i) j pos) (tC (.int i)) := fun _ _ _ H _ I h => wpAny_Constant_int ⟨.int i, H, I.tok _, ⟨_, rfl⟩, h⟩
theorem pe_bl {b j pos} : PE X (.Constant (.bool b) j pos) (tC (.bl b)) := fun _ _ _ H _ I h => Constant_bool ⟨.bl b, H, I, rfl, h⟩
theorem pe_non {j pos} : PE X (.Constant .none j pos) (tC .non) := fun _ _ _ H _ I h => Constant_none ⟨.non, H, I, rfl, h⟩
theorem pe_str {x j pos} : PE X (.Constant (.str x) j pos) (tC (.str x)) := fun _ _ _ H _ I h => Calls.Constant_str ⟨.str x, H, I.tok _, ⟨_, rfl⟩, h⟩

def Gl (X : Cx) (x : Str) : Prop := X.env.kindOf x = some .globalImplicit
theorem ld_glob {E : Value → Shared → Prop} {pins : List (Addr × Obj)} {s : Shared} {σ : St} {H : Hp} {x : Str} {u : Value} {pos : Pos} {Q : Value → Shared → Prop} (I : Inv X pins σ H s) (hg : Gl X x) (hm : X.mg x = some u) (h : Q u s)
    (hd : (x == ("__debug__" : Str)) = false := by decide) : wpAny (model X.prog X.w) X.A (eval (.Name x pos) X.env) Q E s :=
  Calls.Name_function_global I.ok.kind hg (Calls.loadGlobal_global (by rw [I.ok.glob]; exact I.mod.glob.keeps I.bk) hm h) hd
theorem ld_blt {E : Value → Shared → Prop} {pins : List (Addr × Obj)} {s : Shared} {σ : St} {H : Hp} {x : Str} {u : Value} {pos : Pos} {Q : Value → Shared → Prop} (I : Inv X pins σ H s) (hg : Gl X x) (hm : X.mg x = none) (hv : bootBuiltins x = some u) (h : Q u s)
    (hn : x ≠ "__name__" := by decide) (hd : (x == ("__debug__" : Str)) = false := by decide) : wpAny (model X.prog X.w) X.A (eval (.Name x pos) X.env) Q E s := by
  obtain ⟨mb, h1, h2⟩ := I.mod.blt
  exact Calls.Name_function_global I.ok.kind hg (Calls.loadGlobal_builtin (by rw [I.ok.glob]; exact I.mod.glob.keeps I.bk) hm (by rw [I.ok.blt]; exact h1.keeps I.bk) ((h2 x hn).trans hv) h) hd
theorem pe_glob {x : Str} {v : V} {u : Value} {pos : Pos} (hg : Gl X x) (hm : X.mg x = some u) (r : RelV v u) (hd : (x == ("__debug__" : Str)) = false := by decide) : PE X (.Name x pos) (tC v) :=
  fun _ _ _ H _ I h => ld_glob I hg hm ⟨v, H, I, r, h⟩ hd
theorem pe_bltn {x : Str} {v : V} {u : Value} {pos : Pos} (hg : Gl X x) (hm : X.mg x = none) (hv : bootBuiltins x = some u) (r : RelV v u) (hn : x ≠ "__name__" := by decide) (hd : (x == ("__debug__" : Str)) = false := by decide) : PE X (.Name x pos) (tC v) :=
  fun _ _ _ H _ I h => ld_blt I hg hm hv ⟨v, H, I, r, h⟩ hn hd

variable {a b : Expr} {ta tb : TE} {pos : Pos}
def PC (X : Cx) (op : CmpOp) (a b : Expr) (t : TE) : Prop :=
  ∀ (pins : List (Addr × Obj)) (s : Shared) (σ : St) (H : Hp) (Q : VK), Inv X pins σ H s → t σ H Q →
    wpAny (model X.prog X.w) X.A (eval a X.env) (fun v s₁ => wpAny (model X.prog X.w) X.A (eval b X.env) (fun u s₂ => wpAny (model X.prog X.w) X.A (compareOp op v u) (EP X pins σ Q) X.xe s₂) X.xe s₁) X.xe s
theorem nobehind (b : Expr) {op : CmpOp} (h : op ≠ .In) (h2 : op ≠ .NotIn) : behindInMarks op b = false := by
  have e1 : (op == CmpOp.In) = false := by cases op <;> first | rfl | exact absurd rfl h
  have e2 : (op == CmpOp.NotIn) = false := by cases op <;> first | rfl | exact absurd rfl h2
  cases b <;> simp [behindInMarks, e1, e2]
def tIsN (ta : TE) : TE := fun σ H Q => ta σ H fun x H1 => Q (.bl (decide (x = .non))) H1
def tNotN (ta : TE) : TE := fun σ H Q => ta σ H fun x H1 => Q (.bl (!decide (x = .non))) H1
theorem RelV.none_iff {x : V} {v : Value} (r : RelV x v) : (v == Value.none) = decide (x = .non) := by
  cases x with
  | non => cases r; rfl
  | bl _ => cases r; rfl
  | int _ => obtain ⟨t, rfl⟩ := r; rfl
  | str _ => obtain ⟨t, rfl⟩ := r; rfl
  | byt _ => obtain ⟨t, rfl⟩ := r; rfl
  | flt _ => obtain ⟨t, rfl⟩ := r; rfl
  | ref _ => cases r; rfl
  | ty _ => cases r; rfl
theorem pc_isN {j pos'} (ha : PE X a ta) : PC X .Is a (.Constant .none j pos') (tIsN ta) := by
  intro pins s σ H Q I h
  refine thn (ha pins s σ H _ I h) fun v s1 ⟨x, H1, I1, r1, q1⟩ => ?_
  exact Constant_none (is_none_gen ⟨.bl _, H1, I1, by rw [r1.none_iff]; rfl, q1⟩)
theorem pc_notN {j pos'} (ha : PE X a ta) : PC X .IsNot a (.Constant .none j pos') (tNotN ta) := by
  intro pins s σ H Q I h
  refine thn (ha pins s σ H _ I h) fun v s1 ⟨x, H1, I1, r1, q1⟩ => ?_
  exact Constant_none (isnot_none_gen ⟨.bl _, H1, I1, by rw [r1.none_iff]; rfl, q1⟩)
def tB (t : TE) : TT := fun σ H Q => t σ H fun x H1 => ∃ c, x = .bl c ∧ Q c H1
theorem pt_cmp {op : CmpOp} {t : TE} (h : PC X op a b t) (h1 : behindInMarks op b = false := by first | exact nobehind _ (by decide) (by decide) | rfl) : PT X (.Compare a [op] [b] pos) (tB t) := by
  intro pins s σ H Q I hw
  refine wpAny_isTrue_Compare1 (thn (h pins s σ H _ I hw) fun v s1 h1 => thn h1 fun u s2 h2 => thn h2 fun c s3 ⟨x, H1, I1, r1, q1⟩ => ?_) h1
  obtain ⟨d, rfl, q⟩ := q1
  cases r1
  exact wpAny_truthy_bool ⟨H1, I1, q⟩
theorem pt_val {e : Expr} {t : TE} (h : PE X e t) (he : ∀ whole, isTrue e X.env whole = (do let v ← whole; standAt e.pos; holding [v] (truthy v)) := by intro _; rfl) : PT X e (tB t) := by
  intro pins s σ H Q I hw
  refine isTrue_plain (thn (h pins s σ H _ I hw) fun v s1 ⟨x, H1, I1, r1, q1⟩ => ?_) (he _)
  obtain ⟨d, rfl, q⟩ := q1
  cases r1
  exact wpAny_truthy_bool ⟨H1, I1, q⟩

variable {tA tB' : TT} {rest : List Expr}
def tAnd (t u : TT) : TT := fun σ H Q => t σ H fun c H1 => if c = true then u σ H1 Q else Q false H1
def tOr (t u : TT) : TT := fun σ H Q => t σ H fun c H1 => if c = true then Q true H1 else u σ H1 Q
def tNot (t : TT) : TT := fun σ H Q => t σ H fun c H1 => Q (!c) H1
theorem pw_and1 (ha : PT X a tA) : PW X (.BoolOp .And [a] pos) tA := by
  intro wh pins s σ H Q I h
  refine isTrue_and (thn (ha pins s σ H Q I h) fun c s1 e => ?_)
  cases c with
  | true => exact isTrue_and_nil e
  | false => exact e
theorem pw_or1 (ha : PT X a tA) : PW X (.BoolOp .Or [a] pos) tA := by
  intro wh pins s σ H Q I h
  refine isTrue_or (thn (ha pins s σ H Q I h) fun c s1 e => ?_)
  cases c with
  | false => exact isTrue_or_nil e
  | true => exact e
theorem pw_and (ha : PT X a tA) (hb : PW X (.BoolOp .And (b :: rest) pos) tB') : PW X (.BoolOp .And (a :: b :: rest) pos) (tAnd tA tB') := by
  intro wh pins s σ H Q I h
  refine isTrue_and (thn (ha pins s σ H _ I h) fun c s1 ⟨H1, I1, q1⟩ => ?_)
  cases c with
  | true => exact hb wh pins s1 σ H1 Q I1 q1
  | false => exact ⟨H1, I1, q1⟩
theorem pw_or (ha : PT X a tA) (hb : PW X (.BoolOp .Or (b :: rest) pos) tB') : PW X (.BoolOp .Or (a :: b :: rest) pos) (tOr tA tB') := by
  intro wh pins s σ H Q I h
  refine isTrue_or (thn (ha pins s σ H _ I h) fun c s1 ⟨H1, I1, q1⟩ => ?_)
  cases c with
  | true => exact ⟨H1, I1, q1⟩
  | false => exact hb wh pins s1 σ H1 Q I1 q1
theorem pt_not (ha : PT X a tA) : PT X (.UnaryOp .Not a pos) (tNot tA) := by
  intro pins s σ H Q I h
  exact isTrue_not (ha pins s σ H (fun c H1 => Q (!c) H1) I h)
def tAndV (ta tb : TE) : TE := fun σ H Q => ta σ H fun x H1 => ∃ c, x = .bl c ∧ if c = true then tb σ H1 Q else Q (.bl false) H1
def tNotV (ta : TE) : TE := fun σ H Q => ta σ H fun x H1 => ∃ c, x = .bl c ∧ Q (.bl (!c)) H1
theorem pe_one {op} {t : TE} (h : PE X a t) : PE X (.BoolOp op [a] pos) t := fun pins s σ H Q I hw => BoolOp_one (h pins s σ H Q I hw)
theorem pe_and (ha : PE X a ta) (hb : PE X (.BoolOp .And (b :: rest) pos) tb) : PE X (.BoolOp .And (a :: b :: rest) pos) (tAndV ta tb) := by
  intro pins s σ H Q I h
  refine BoolOp_and (thn (ha pins s σ H _ I h) fun v s1 ⟨x, H1, I1, r1, q1⟩ => ?_)
  obtain ⟨c, rfl, q1⟩ := q1
  cases r1
  refine wpAny_truthy_bool ?_
  cases c with
  | true => exact hb pins s1 σ H1 Q I1 q1
  | false => exact ⟨.bl false, H1, I1, rfl, q1⟩
theorem pe_not (ha : PE X a ta) : PE X (.UnaryOp .Not a pos) (tNotV ta) := by
  intro pins s σ H Q I h
  refine UnaryOp_ (thn (ha pins s σ H _ I h) fun v s1 ⟨x, H1, I1, r1, q1⟩ => ?_)
  obtain ⟨c, rfl, q1⟩ := q1
  cases r1
  exact not_of (wpAny_truthy_bool ⟨.bl (!c), H1, I1, rfl, q1⟩)
def tIf (t : TT) (ta tb : TE) : TE := fun σ H Q => t σ H fun c H1 => if c = true then ta σ H1 Q else tb σ H1 Q
theorem pe_ifExp {c : Expr} (hc : PT X c tA) (ha : PE X a ta) (hb : PE X b tb) : PE X (.IfExp c a b pos) (tIf tA ta tb) := by
  intro pins s σ H Q I h
  refine wpAny_IfExp (thn (hc pins s σ H _ I h) fun d s1 ⟨H1, I1, q1⟩ => ?_)
  cases d with
  | true => exact ha pins s1 σ H1 Q I1 q1
  | false => exact hb pins s1 σ H1 Q I1 q1
end
end L2

namespace L2
open PySem PySem.Spec PyProof.Rows

def SqL (K : PySem.W.Frag) (H : Hp) (a : Addr) (xs : List V) : Prop :=
  Rd H a (.lst xs) ∨
    ∃ (o : Obj) (its : Array Value) (n : Nat), K.lookup a = some o ∧ o.cls = .type "list" ∧ o.dict = none ∧ o.data = .seq its n ∧ its.size ≤ sizeLine ∧ Vals xs its.toList
def SqT (K : PySem.W.Frag) (H : Hp) (a : Addr) (xs : List V) : Prop :=
  Rd H a (.tup xs) ∨
    ∃ (o : Obj) (its : Array Value) (n : Nat), K.lookup a = some o ∧ o.cls = .type "tuple" ∧ o.data = .seq its n ∧ its.size ≤ sizeLine ∧ Vals xs its.toList
def absV : Value → Option V
  | .none => some .non
  | .bool b => some (.bl b)
  | .int i _ => some (.int i)
  | .str x _ => some (.str x)
  | .bytes b _ => some (.byt b)
  | .float b _ => some (.flt b)
  | .ref a => some (.ref a)
  | .type n => some (.ty n)
  | _ => none
theorem RelV.abs {x : V} {u : Value} (r : RelV x u) : absV u = some x := by
  cases x with
  | non => cases r; rfl
  | bl _ => cases r; rfl
  | int _ => obtain ⟨t, rfl⟩ := r; rfl
  | str _ => obtain ⟨t, rfl⟩ := r; rfl
  | byt _ => obtain ⟨t, rfl⟩ := r; rfl
  | flt _ => obtain ⟨t, rfl⟩ := r; rfl
  | ref _ => cases r; rfl
  | ty _ => cases r; rfl
theorem RelV.inj {x y : V} {u : Value} (r : RelV x u) (q : RelV y u) : x = y := Option.some.inj (r.abs.symm.trans q.abs)
theorem Vals.inj : ∀ {xs ys : List V} {us : List Value}, Vals xs us → Vals ys us → xs = ys
  | _, _, _, .nil, .nil => rfl
  | _, _, _, .cons r t, .cons r' t' => by rw [r.inj r', Vals.inj t t']
section
variable {X : Cx} {pins : List (Addr × Obj)} {σ : St} {H : Hp} {s : Shared} {a : Addr} {xs ys : List V}
theorem SqL.of {K : PySem.W.Frag} (h : H a = some (.lst xs)) : SqL K H a xs := .inl (.inl h)
theorem SqT.of {K : PySem.W.Frag} (h : H a = some (.tup xs)) : SqT K H a xs := .inl (.inl h)
theorem Inv.list (I : Inv X pins σ H s) (h : SqL X.K H a xs) : ∃ its : List Value, Vals xs its ∧ PlainL s.heap a its.toArray ∧ xs.length ≤ sizeLine := by
  rcases h with h | ⟨o, its, n, hk, hc, hd, hs, hz, r⟩
  · obtain ⟨z, its, n, r, e⟩ := h.ok I.hok
    exact ⟨its, r, ⟨_, n, e, rfl, rfl, rfl⟩, z⟩
  · refine ⟨its.toList, r, ⟨o, n, I.kIn a o hk, hc, hd, by simpa using hs⟩, ?_⟩
    have e := r.length
    simp only [Array.length_toList] at e
    omega
theorem Inv.tuple (I : Inv X pins σ H s) (h : SqT X.K H a xs) : ∃ its : List Value, Vals xs its ∧ IsTup s.heap a its.toArray ∧ xs.length ≤ sizeLine := by
  rcases h with h | ⟨o, its, n, hk, hc, hs, hz, r⟩
  · obtain ⟨z, its, r, p⟩ := h.ok I.hok
    exact ⟨its, r, p, z⟩
  · refine ⟨its.toList, r, ⟨o, I.kIn a o hk, hc, n, by simpa using hs⟩, ?_⟩
    have e := r.length
    simp only [Array.length_toList] at e
    omega
theorem Inv.list_inj (I : Inv X pins σ H s) (h : SqL X.K H a xs) (h' : SqL X.K H a ys) : xs = ys := by
  obtain ⟨its, r, ⟨o, n, e, _, _, d⟩, _⟩ := I.list h
  obtain ⟨its', r', ⟨o', n', e', _, _, d'⟩, _⟩ := I.list h'
  rw [e] at e'; cases e'
  rw [d] at d'
  injection d' with d1 _
  have : its = its' := by simpa using congrArg Array.toList d1
  subst this
  exact r.inj r'
end

abbrev Cx.wish (X : Cx) (E : Value → Shared → Prop) : Cx := { X with xe := E }
abbrev Cx.nox (X : Cx) : Cx := X.wish fun _ _ => False
theorem Cx.Ok.wish {X : Cx} (ok : X.Ok) (E : Value → Shared → Prop) : (X.wish E).Ok :=
  ⟨ok.mod, ok.kind, ok.glob, ok.blt, ok.above, ok.inj, ok.has, ok.cab, ok.hd, ok.frames, ok.stk, ok.exf, ok.bs, ok.bsz, ok.noex, ok.exfs, ok.funs, ok.frf⟩
theorem Cx.Ok.unwish {X : Cx} {E : Value → Shared → Prop} (ok : (X.wish E).Ok) : X.Ok :=
  ⟨ok.mod, ok.kind, ok.glob, ok.blt, ok.above, ok.inj, ok.has, ok.cab, ok.hd, ok.frames, ok.stk, ok.exf, ok.bs, ok.bsz, ok.noex, ok.exfs, ok.funs, ok.frf⟩
section
variable {X : Cx} {pins : List (Addr × Obj)} {σ : St} {H : Hp} {s : Shared} {E : Value → Shared → Prop}
theorem Inv.wish (I : Inv X pins σ H s) (E : Value → Shared → Prop) : Inv (X.wish E) pins σ H s := ⟨I.ok.wish E, I.os, I.bare, I.base, I.loc, I.cell, I.free, I.freeC, I.pin, I.hok, I.len⟩
theorem Inv.unwish (I : Inv (X.wish E) pins σ H s) : Inv X pins σ H s := ⟨I.ok.unwish, I.os, I.bare, I.base, I.loc, I.cell, I.free, I.freeC, I.pin, I.hok, I.len⟩
theorem SP.unwish {D : Ends} {f : Flow} {s' : Shared} (h : SP (X.wish E) pins D f s') : SP X pins D f s' := by
  cases f with
  | next => obtain ⟨σ', H', I, q⟩ := h; exact ⟨σ', H', I.unwish, q⟩
  | brk => obtain ⟨σ', H', I, q⟩ := h; exact ⟨σ', H', I.unwish, q⟩
  | cont => obtain ⟨σ', H', I, q⟩ := h; exact ⟨σ', H', I.unwish, q⟩
  | ret u => obtain ⟨v, σ', H', I, r, q⟩ := h; exact ⟨v, σ', H', I.unwish, r, q⟩
theorem PE.nox {e : Expr} {t : TE} (h : PE X.nox e t) : PE X e t := fun pins s σ H Q I hw =>
  wpAny_mono (h pins s σ H Q (I.wish _) hw) (fun _ _ ⟨v, H', I', r, q⟩ => ⟨v, H', I'.unwish, r, q⟩) fun _ _ z => False.elim z
theorem PT.nox {e : Expr} {t : TT} (h : PT X.nox e t) : PT X e t := fun pins s σ H Q I hw =>
  wpAny_mono (h pins s σ H Q (I.wish _) hw) (fun _ _ ⟨H', I', q⟩ => ⟨H', I'.unwish, q⟩) fun _ _ z => False.elim z
theorem PSs.nox {st : List Stmt} {t : TS} (h : PSs X.nox st t) : PSs X st t := fun pins s σ H D I hw =>
  wpAny_mono (h pins s σ H D (I.wish _) hw) (fun _ _ q => q.unwish) fun _ _ z => False.elim z
end

section
variable {X : Cx} {st : Stmt} {rest : List Stmt} {t u : TS} {e : Expr} {te : TE} {pos : Pos}
def tNext : TS := fun D σ H => D.nx σ H
def tSeq (t u : TS) : TS := fun D σ H => t { D with nx := u D } σ H
theorem pss_nil : PSs X [] tNext := fun _ _ σ H _ I h => wpAny_execs_nil ⟨σ, H, I, h⟩
theorem pss_cons (h1 : PS X st t) (h2 : PSs X rest u) : PSs X (st :: rest) (tSeq t u) := by
  intro pins s σ H D I h
  refine wpAny_execs_cons (thn (h1 pins s σ H { D with nx := u D } I h) fun f s1 q => ?_)
  cases f with
  | next =>
    obtain ⟨σ', H', I', q⟩ := q
    exact h2 pins s1 σ' H' D I' q
  | ret v => exact q
  | brk => exact q
  | cont => exact q
theorem pss_one (h1 : PS X st t) : PSs X [st] t := by
  intro pins s σ H D I h
  refine wpAny_execs_cons (thn (h1 pins s σ H D I h) fun f s1 q => ?_)
  cases f with
  | next => exact wpAny_execs_nil q
  | ret v => exact q
  | brk => exact q
  | cont => exact q
theorem Inv.quiet {pins : List (Addr × Obj)} {σ : St} {H : Hp} {s : Shared} (I : Inv X pins σ H s) : interactive X.env = false := by simp [interactive, I.ok.kind]
def tDrop (te : TE) : TS := fun D σ H => te σ H fun _ H1 => D.nx σ H1
theorem ps_expr (he : PE X e te) (hs : swapsWith e none pos.line X.env = pure false := by rfl) : PS X (.Expr e pos) (tDrop te) := by
  intro pins s σ H D I h
  exact wpAny_Expr_any (thn (he pins s σ H _ I h) fun v s1 ⟨x, H1, I1, r1, q1⟩ => ⟨σ, H1, I1, q1⟩) I.quiet hs
def tRet (te : TE) : TS := fun D σ H => te σ H D.rt
theorem ps_ret (he : PE X e te) : PS X (.Return (some e) pos) (tRet te) := by
  intro pins s σ H D I h
  exact wpAny_Return_some (thn (he pins s σ H _ I h) fun v s1 ⟨x, H1, I1, r1, q1⟩ => ⟨x, σ, H1, I1, r1, q1⟩)
def tIfS (c : TT) (t u : TS) : TS := fun D σ H => c σ H fun b H1 => if b = true then t D σ H1 else u D σ H1
theorem ps_if {c : Expr} {a b : List Stmt} {tc : TT} (hc : PT X c tc) (ha : PSs X a t) (hb : PSs X b u) : PS X (.If c a b pos) (tIfS tc t u) := by
  intro pins s σ H D I h
  refine wpAny_If (thn (hc pins s σ H _ I h) fun d s1 ⟨H1, I1, q1⟩ => ?_)
  cases d with
  | true => exact ha pins s1 σ H1 D I1 q1
  | false => exact hb pins s1 σ H1 D I1 q1
def tNever : TS := fun _ _ _ => False
theorem pss_never {sts : List Stmt} : PSs X sts tNever := fun _ _ _ _ _ _ h => h.elim
end

abbrev TG := V → St → Hp → (St → Hp → Prop) → Prop
abbrev TGs := List V → St → Hp → (St → Hp → Prop) → Prop
def PG (X : Cx) (target : Expr) (t : TG) : Prop :=
  ∀ (pins : List (Addr × Obj)) (s : Shared) (σ : St) (H : Hp) (v : V) (u : Value) (Q : St → Hp → Prop), Inv X pins σ H s → RelV v u → t v σ H Q →
    wpAny (model X.prog X.w) X.A (assign target X.env u) (fun _ s' => ∃ σ' H', Inv X pins σ' H' s' ∧ Q σ' H') X.xe s
def PGs (X : Cx) (ts : List Expr) (t : TGs) : Prop :=
  ∀ (pins : List (Addr × Obj)) (s : Shared) (σ : St) (H : Hp) (vs : List V) (us : List Value) (Q : St → Hp → Prop), Inv X pins σ H s → Vals vs us → t vs σ H Q →
    wpAny (model X.prog X.w) X.A (assignInOrder ((assignEach ts X.env).map (·.2)) us) (fun _ s' => ∃ σ' H', Inv X pins σ' H' s' ∧ Q σ' H') X.xe s
abbrev TSet := V → V → V → Hp → (Hp → Prop) → Prop
def PSet (X : Cx) (t : TSet) : Prop :=
  ∀ (pins : List (Addr × Obj)) (s : Shared) (σ : St) (H : Hp) (o i v : V) (ov iv u : Value) (Q : Hp → Prop), Inv X pins σ H s → RelV o ov → RelV i iv → RelV v u → t o i v H Q →
    wpAny (model X.prog X.w) X.A (setItem ov iv u) (fun _ s' => ∃ H', Inv X pins σ H' s' ∧ Q H') X.xe s
section
variable {X : Cx} {pos : Pos}
def gName (i : Nat) : TG := fun v σ H Q => Q (σ.set i (some v)) H
theorem pg_name {i : Nat} {x : Str} (hN : X.N.Nodup) (hi : X.N[i]? = some x) (hx : Loc X.env.scope x) (hf : X.fn x = true ∨ X.env.scope.names.lookup x = some .local := by first | exact .inl rfl | exact .inr rfl | assumption) : PG X (.Name x pos) (gName i) := by
  intro pins s σ H v u Q I r h
  exact wpAny_assign_Name (store_ok I hN hi hx r (fun s' I' => ⟨_, H, I', h⟩) hf)
def gNil : TGs := fun vs σ H Q => vs = [] ∧ Q σ H
def gCons (t : TG) (u : TGs) : TGs := fun vs σ H Q => ∃ v r, vs = v :: r ∧ t v σ H fun σ' H' => u r σ' H' Q
theorem pgs_nil : PGs X [] gNil := by
  intro pins s σ H vs us Q I r h
  obtain ⟨e, h⟩ := h
  subst e
  cases r
  exact assignInOrder_nil ⟨σ, H, I, h⟩
theorem pgs_cons {e : Expr} {es : List Expr} {t : TG} {u : TGs} (h1 : PG X e t) (h2 : PGs X es u)
    (hs : (assignEach (e :: es) X.env).map (·.2) = assign e X.env :: (assignEach es X.env).map (·.2) := by rfl) : PGs X (e :: es) (gCons t u) := by
  intro pins s σ H vs us Q I r h
  obtain ⟨v, vr, e1, h⟩ := h
  subst e1
  cases r with
  | cons r rr =>
    rw [hs]
    refine assignInOrder_cons (thn (h1 pins s σ H _ _ _ I r h) fun _ s1 ⟨σ1, H1, I1, q1⟩ => ?_)
    exact h2 pins s1 σ1 H1 _ _ Q I1 rr q1
def gTup (K : PySem.W.Frag) (n : Nat) (t : TGs) : TG := fun v σ H Q => ∃ a xs, v = .ref a ∧ SqT K H a xs ∧ xs.length = n ∧ t xs σ H Q
theorem pg_tup {es : List Expr} {k : Nat} {t : TGs} {n : Nat} (hc : X.calm = true) (h : PGs X es t)
    (hn : (assignEach es X.env).length = n := by rfl) (hst : (assignEach es X.env).findIdx? (·.1) = none := by rfl) : PG X (.Tuple es k pos) (gTup X.K n t) := by
  intro pins s σ H v u Q I r hw
  obtain ⟨a, xs, e1, hq, hl, hw⟩ := hw
  subst e1
  cases r
  obtain ⟨its, rv, ht, hz⟩ := I.tuple hq
  refine assign_Tuple_tuple (I.ok.hd hc) ht (by simp [hn, ← hl, rv.length]) hst fun h' hx => ?_
  have I1 : Inv X pins σ H { s with heap := h' } := I.kept (t' := s.toks) fun b o e => hx b o (Nat.ne_of_lt (Heap.lt_size e)) e
  exact h pins _ σ H xs _ Q I1 (by simpa using rv) hw
def gSub (to ti : TE) (t : TSet) : TG := fun v σ H Q => to σ H fun o H1 => ti σ H1 fun i H2 => t o i v H2 fun H3 => Q σ H3
theorem pg_sub {o i : Expr} {to ti : TE} {t : TSet} (ho : PE X o to) (hi : PE X i ti) (hs : PSet X t)
    (ha : ∀ v, assign (.Subscript o i pos) X.env v = (do
      let ov ← holding [v] (eval o X.env)
      let iv ← holding [v, ov] (eval i X.env)
      standAt pos
      holding [v, ov, iv] (setItem ov iv v)
      release [v, ov, iv] []) := by intro _; rfl) : PG X (.Subscript o i pos) (gSub to ti t) := by
  intro pins s σ H v u Q I r h
  rw [ha]
  refine wpAny_bind (wpAny_holding (thn (ho pins s σ H _ I h) fun ov s1 ⟨x, H1, I1, r1, q1⟩ => ?_))
  refine wpAny_bind (wpAny_holding (thn (hi pins s1 σ H1 _ I1 q1) fun iv s2 ⟨y, H2, I2, r2, q2⟩ => ?_))
  refine wpAny_bind (wpAny_standAt (wpAny_bind (wpAny_holding (thn (hs pins s2 σ H2 x y v ov iv u _ I2 r1 r2 r q2) fun _ s3 ⟨H3, I3, q3⟩ => ?_))))
  exact wpAny_release ⟨σ, H3, I3, q3⟩
def tAsg (te : TE) (g : TG) : TS := fun D σ H => te σ H fun x H1 => g x σ H1 D.nx
theorem ps_asg {tg e : Expr} {te : TE} {g : TG} (he : PE X e te) (hg : PG X tg g) (hs : swapsWithSole [tg] e pos.line X.env = pure false := by rfl) (hw : swappedStores [tg] e X.env = pure none := by rfl)
    (h1 : (assignEach [tg] X.env).map (·.2) = [assign tg X.env] := by rfl) : PS X (.Assign [tg] e pos) (tAsg te g) := by
  intro pins s σ H D I h
  refine wpAny_Assign_stores (thn (he pins s σ H _ I h) fun v s1 ⟨x, H1, I1, r1, q1⟩ => ?_) hs hw
  rw [h1]
  exact thn (hg pins s1 σ H1 x v _ I1 r1 q1) fun _ s2 q => q
theorem ps_set {i : Nat} {x : Str} {e : Expr} {te : TE} {pos' : Pos} (hN : X.N.Nodup) (hi : X.N[i]? = some x) (hx : Loc X.env.scope x) (he : PE X e te) (hs : swapsWith e (some (.Name x pos')) pos.line X.env = pure false := by rfl) (hf : X.fn x = true ∨ X.env.scope.names.lookup x = some .local := by first | exact .inl rfl | exact .inr rfl | assumption) :
    PS X (.Assign [.Name x pos'] e pos) (tAsg te (gName i)) := by
  intro pins s σ H D I h
  refine wpAny_Assign_Name (thn (he pins s σ H _ I h) fun v s1 ⟨y, H1, I1, r1, q1⟩ => ?_) hs
  exact store_ok I1 hN hi hx r1 (fun s2 I2 => ⟨_, H1, I2, q1⟩) hf
end

section
variable {X : Cx} {pos : Pos}
def tWhile (c : TT) (tb : TS) : TS := fun D σ H => ∃ W : Nat → St → Hp → Prop, (∃ m, W m σ H) ∧ ∀ m σ H, W m σ H →
  c σ H fun b H1 => if b = true then ∃ N : St → Hp → Prop, (∀ σ' H', N σ' H' → ∃ m', m' < m ∧ W m' σ' H') ∧ tb { D with nx := N, ct := N, bk := D.nx } σ H1 else D.nx σ H1
theorem ps_while {c : Expr} {body : List Stmt} {tc : TT} {tb : TS} (hp : PassesOwn (model X.prog X.w) X.A X.env X.xe) (hc : PT X c tc) (hb : PSs X body tb) : PS X (.While c body [] pos) (tWhile tc tb) := by
  intro pins s σ H D I h
  obtain ⟨W, ⟨m0, w0⟩, turn⟩ := h
  refine wpAny_While (codeAny_whileLoop (fun n s' => ∃ σ' H', Inv X pins σ' H' s' ∧ W n σ' H') ?_ m0 ⟨σ, H, I, w0⟩)
  rintro n s1 ⟨σ1, H1, I1, w1⟩
  refine wpAny_passesOwn hp (thn (hc pins s1 σ1 H1 _ I1 (turn n σ1 H1 w1)) fun b s2 ⟨H2, I2, q2⟩ => ?_)
  cases b with
  | true =>
    obtain ⟨N, hN, q2⟩ := q2
    rw [if_pos rfl]
    refine wpAny_passesOwn hp (thn (hb pins s2 σ1 H2 _ I2 q2) fun f s3 q3 => ?_)
    cases f with
    | next =>
      obtain ⟨σ3, H3, I3, n3⟩ := q3
      obtain ⟨m', hm, w3⟩ := hN σ3 H3 n3
      exact ⟨m', hm, σ3, H3, I3, w3⟩
    | cont =>
      obtain ⟨σ3, H3, I3, n3⟩ := q3
      obtain ⟨m', hm, w3⟩ := hN σ3 H3 n3
      exact ⟨m', hm, σ3, H3, I3, w3⟩
    | brk => exact q3
    | ret v => exact q3
  | false =>
    rw [if_neg Bool.false_ne_true]
    exact wpAny_execs_nil ⟨σ1, H2, I2, q2⟩
end

structure It where
  go : Nat → Hp → Prop
  yld : Nat → Hp → V → Hp → Prop
  stop : Nat → Hp → Prop
def FpOk (X : Cx) (pins : List (Addr × Obj)) (H : Hp) (b : Addr) : Prop :=
  H b = none ∧ b ≠ X.env.locals ∧ b ∉ X.fs ∧ (b ∈ X.ex ∨ X.s₀.heap.objs.size ≤ b) ∧ (∀ x c, X.env.cells.lookup x = some c → c ≠ b) ∧ ∀ p ∈ X.pn ++ pins, p.1 ≠ b
theorem Inv.fpOk {X : Cx} {pins : List (Addr × Obj)} {σ : St} {H H' : Hp} {s : Shared} {b : Addr} (I : Inv X pins σ H s) (hb : s.heap.objs.size ≤ b) (hn : H' b = none) : FpOk X pins H' b := by
  refine ⟨hn, Nat.ne_of_gt (Nat.lt_of_lt_of_le I.lt hb), I.nofs hb, .inr (Nat.le_trans I.sz hb), fun x c e z => ?_, fun p hp z => ?_⟩
  · obtain ⟨v, q⟩ := I.cell x c e
    exact absurd (Nat.lt_of_lt_of_le q.lt (by rw [z]; exact hb)) (Nat.lt_irrefl _)
  · exact absurd (Nat.lt_of_lt_of_le (Heap.lt_size (I.pin p hp).1) (by rw [z]; exact hb)) (Nat.lt_irrefl _)
structure Turn (P : Program) (w : World) (K : PySem.W.Frag) (tg : Expr) (J : It) (fp : List Addr) (it : Addr) (tn : Nat → Heap → Prop) : Prop where
  mem : it ∈ fp
  obj : ∀ i h, tn i h → ∀ b ∈ fp, ∃ o, h.get? b = some o ∧ ∀ v, o.data ≠ .cell v
  keep : ∀ i h h', tn i h → (∀ b ∈ fp, ∀ o, h.get? b = some o → h'.get? b = some o) → tn i h'
  item : ∀ (X : Cx), X.prog = P → X.w = w → X.K = K → X.calm = true → ∀ (i : Nat) (pins : List (Addr × Obj)) (s : Shared) (σ : St) (H : Hp) (E : Value → Shared → Prop), Inv X pins σ H s → (∀ b ∈ fp, FpOk X pins H b) → tn i s.heap → J.go i H →
    wpAny (model P w) X.A (pyNext (.ref it)) (fun r s1 => ∃ u, r = some u ∧
      wpAny (model P w) X.A (letOwnedTupleGo tg (.ref it) u) (fun _ s2 => ∃ x H', Inv X pins σ H' s2 ∧ RelV x u ∧ J.yld i H x H' ∧ tn (i + 1) s2.heap ∧ ∀ b ∈ fp, H' b = none) E s1) E s
  done : ∀ (X : Cx), X.prog = P → X.w = w → X.K = K → X.calm = true → ∀ (i : Nat) (pins : List (Addr × Obj)) (s : Shared) (σ : St) (H : Hp) (E : Value → Shared → Prop), Inv X pins σ H s → (∀ b ∈ fp, FpOk X pins H b) → tn i s.heap → J.stop i H →
    wpAny (model P w) X.A (pyNext (.ref it)) (fun r s1 => r = none ∧ Inv X pins σ H s1) E s
  self : ∀ (A : Around) (i : Nat) (s : Shared) (Q : Value → Shared → Prop) (E : Value → Shared → Prop), tn i s.heap → Q (.ref it) s → wpAny (model P w) A (pyIter (.ref it)) Q E s
abbrev TI := St → Hp → (It → Hp → Prop) → Prop
def PIE (X : Cx) (pins : List (Addr × Obj)) (σ : St) (tg : Expr) (R : It → Hp → Prop) (itv : Value) (s2 : Shared) : Prop :=
  ∃ (it : Addr) (fp : List Addr) (tn : Nat → Heap → Prop) (J : It) (H' : Hp), itv = .ref it ∧ Inv X pins σ H' s2 ∧ Turn X.prog X.w X.K tg J fp it tn ∧ tn 0 s2.heap ∧ (∀ b ∈ fp, FpOk X pins H' b) ∧ R J H'
def PI (X : Cx) (tg iter : Expr) (wi : TI) : Prop :=
  ∀ (pins : List (Addr × Obj)) (s : Shared) (σ : St) (H : Hp) (R : It → Hp → Prop), Inv X pins σ H s → wi σ H R →
    wpAny (model X.prog X.w) X.A (eval iter X.env) (fun v s1 => wpAny (model X.prog X.w) X.A (pyIter v) (PIE X pins σ tg R) X.xe s1) X.xe s

theorem go_of {M : Model} {A : Around} {E : Value → Shared → Prop} {s : Shared} {tg : Expr} {it : Addr} {u : Value} {o : Obj} {n : String} {vs : Array Value} {Q : Unit → Shared → Prop} (ho : s.heap.get? it = some o) (hc : o.cls = .type n) (hd : o.data = .fields vs)
    (hn : ["enumerate", "zip", "dict_itemiterator", "dict_reverseitemiterator", "odict_iterator", "itertools.zip_longest", "itertools.pairwise"].contains n = false) (hQ : Q () s) : wpAny M A (letOwnedTupleGo tg (.ref it) u) Q E s := by
  unfold letOwnedTupleGo
  cases tg <;> first
    | exact wpAny_pure hQ
    | (cases u <;> first
        | exact wpAny_pure hQ
        | (refine wpAny_bind (wpAny_load ho ?_)
           rw [hc, hd]
           show wpAny M A (if (["enumerate", "zip", "dict_itemiterator", "dict_reverseitemiterator", "odict_iterator", "itertools.zip_longest", "itertools.pairwise"].contains n && vs[0]? == some (rawInt _)) = true then _ else _) Q E s
           rw [if_neg (by intro h; rw [hn, Bool.false_and] at h; cases h)]
           exact wpAny_pure hQ))

def Itl (K : PySem.W.Frag) (a : Addr) : It :=
  ⟨fun i H => ∃ xs x, SqL K H a xs ∧ xs[i]? = some x, fun i H x H' => H' = H ∧ ∀ xs, SqL K H a xs → xs[i]? = some x, fun i H => ∃ xs, SqL K H a xs ∧ xs.length ≤ i⟩
def Itr (lo : Int) (n : Nat) : It := ⟨fun i _ => i < n, fun i H x H' => H' = H ∧ x = .int (lo + i), fun i _ => n ≤ i⟩
theorem turn_list {P : Program} {w : World} {K : PySem.W.Frag} {tg : Expr} (a it : Addr) : Turn P w K tg (Itl K a) [it] it (fun i h => h.IsListIter it a i) where
  mem := by simp
  obj := fun i h st b hb => by
    have e : b = it := by simpa using hb
    subst e
    obtain ⟨o, e, c, d⟩ := st
    exact ⟨o, e, fun v z => by rw [d] at z; cases z⟩
  keep := fun i h h' st k => st.at fun o e => k it (by simp) o e
  item := by
    intro X hP hw hK hc i pins s σ H E I hf st hg
    subst hP hw hK
    obtain ⟨xs, x, hq, hx⟩ := hg
    obtain ⟨its, rv, p, hz⟩ := I.list hq
    obtain ⟨u, hu, ru⟩ := rv.get hx
    obtain ⟨f0, f1, f2, f3, f4, f5⟩ := hf it (by simp)
    refine wpAny_pyNext_list_item st p.isList (x := u) (by simpa using hu) fun h' st' sb => ?_
    have I1 : Inv X pins σ H { s with heap := h' } := I.turned (t' := s.toks) (fun b o hb e => (sb.2 b hb).trans e) f0 f1 f3 f4 f5
    obtain ⟨o, e, c, d⟩ := id st'
    exact ⟨u, rfl, go_of (s := { s with heap := h' }) e c d (by decide) ⟨x, H, I1, ru, ⟨rfl, fun ys hy => by rw [I.list_inj hy hq]; exact hx⟩, st', fun b hb => (hf b hb).1⟩⟩
  done := by
    intro X hP hw hK hc i pins s σ H E I hf st hg
    subst hP hw hK
    obtain ⟨xs, hq, hx⟩ := hg
    obtain ⟨its, rv, p, hz⟩ := I.list hq
    obtain ⟨f0, f1, f2, f3, f4, f5⟩ := hf it (by simp)
    have hl := rv.length
    exact wpAny_pyNext_list_end (I.ok.hd hc) st p.isList (by simp; omega) fun h' eb => ⟨rfl, I.turned (t' := s.toks) (fun b o hb e => eb b o hb e) f0 f1 f3 f4 f5⟩
  self := fun _ _ _ _ _ st h => wpAny_pyIter_listiter st h
theorem turn_range {P : Program} {w : World} {K : PySem.W.Frag} {tg : Expr} (it : Addr) (lo : Int) (n : Nat) : Turn P w K tg (Itr lo n) [it] it (fun i h => IsRangeIter h it (lo + (i : Nat) * 1) ((n : Int) - (i : Nat)) 1) where
  mem := by simp
  obj := fun i h st b hb => by
    have e : b = it := by simpa using hb
    subst e
    exact ⟨_, st, fun v z => by
      have z' : Data.fields _ = Data.cell v := z
      cases z'⟩
  keep := fun i h h' st k => k it (by simp) _ st
  item := by
    intro X hP hw hK hc i pins s σ H E I hf st hg
    subst hP hw hK
    obtain ⟨f0, f1, f2, f3, f4, f5⟩ := hf it (by simp)
    have W := Walks.range (prog := X.prog) (w := X.w) (I.ok.hd hc) it lo 1 n
    refine W.item i s _ _ hg st fun v h' tk hv st' kk => ?_
    obtain ⟨t, rfl⟩ := hv
    have I1 : Inv X pins σ H { s with heap := h', toks := tk } := I.turned (fun b o hb e => kk b o (by simpa using hb) e) f0 f1 f3 f4 f5
    refine ⟨_, rfl, go_of (s := { s with heap := h', toks := tk }) (n := "range_iterator") st' rfl rfl (by decide) ⟨.int (lo + i), H, I1, ⟨t, ?_⟩, ⟨rfl, rfl⟩, st', fun b hb => (hf b hb).1⟩⟩
    rw [Int.mul_one]
  done := by
    intro X hP hw hK hc i pins s σ H E I hf st hg
    subst hP hw hK
    obtain ⟨f0, f1, f2, f3, f4, f5⟩ := hf it (by simp)
    exact wpAny_pyNext_range_end (I.ok.hd hc) st (by have : n ≤ i := hg; omega) fun h' eb => ⟨rfl, I.turned (t' := s.toks) (fun b o hb e => eb b o hb e) f0 f1 f3 f4 f5⟩
  self := fun _ _ _ _ _ st h => wpAny_pyIter_rangeiter st h
end L2

namespace L2
open PySem PySem.Spec PyProof.Rows
section
variable {X : Cx} {tg : Expr}
def iList (K : PySem.W.Frag) (tl : TE) : TI := fun σ H R => tl σ H fun x H1 => ∃ a, x = .ref a ∧ (∃ xs, SqL K H1 a xs) ∧ R (Itl K a) H1
theorem pi_list {l : Expr} {tl : TE} (hl : PE X l tl) : PI X tg l (iList X.K tl) := by
  intro pins s σ H R I h
  refine thn (hl pins s σ H _ I h) fun v s1 ⟨x, H1, I1, r1, q1⟩ => ?_
  obtain ⟨a, e, ⟨xs, hq⟩, q⟩ := q1
  subst e
  cases r1
  obtain ⟨its, rv, p, hz⟩ := I1.list hq
  refine wpAny_pyIter_list p.isList ?_
  refine ⟨s1.heap.objs.size, [s1.heap.objs.size], _, _, H1, rfl, I1.kept (t' := s1.toks) fun b o e => Heap.get?_push_of_some _ e, turn_list a _, ⟨_, Heap.get?_push_size _ rfl, rfl, rfl⟩, fun b hb => ?_, q⟩
  have e : b = s1.heap.objs.size := by simpa using hb
  subst e
  exact I1.fpOk (Nat.le_refl _) (I1.hok.fresh (Nat.le_refl _))
theorem range_it {pins : List (Addr × Obj)} {σ : St} {H : Hp} {s : Shared} {R : It → Hp → Prop} {E : Value → Shared → Prop} {lo hi : Int} {t u v : Tok} {tk : Nat} (I : Inv X pins σ H s) (h1 : -(2 ^ 62) ≤ lo) (h2 : lo < 2 ^ 62) (h3 : -(2 ^ 62) ≤ hi) (h4 : hi < 2 ^ 62)
    (q : R (Itr lo (hi - lo).toNat) H) : wpAny (model X.prog X.w) X.A (pyIter (.ref s.heap.objs.size)) (PIE X pins σ tg R) E { s with heap := s.heap.push { cls := .type "range", data := .fields #[.int lo t, .int hi u, .int 1 v] }, toks := tk } := by
  refine wpAny_pyIter_range (IsRange.new ..) (small_one h1 h2 h3 h4) ?_
  have I1 : Inv X pins σ H { s with heap := s.heap.push { cls := .type "range", data := .fields #[.int lo t, .int hi u, .int 1 v] }, toks := tk } := I.kept fun b o e => Heap.get?_push_of_some _ e
  refine ⟨(s.heap.push { cls := .type "range", data := .fields #[.int lo t, .int hi u, .int 1 v] }).objs.size, [(s.heap.push { cls := .type "range", data := .fields #[.int lo t, .int hi u, .int 1 v] }).objs.size], _, _, H, rfl,
    I1.kept (t' := tk) fun b o e => Heap.get?_push_of_some _ e, turn_range _ lo (hi - lo).toNat, ?_, fun b hb => ?_, q⟩
  · have e1 : lo + ((0 : Nat) : Int) * 1 = lo := by simp
    have e2 : (((hi - lo).toNat : Nat) : Int) - ((0 : Nat) : Int) = Builtin.Range.rangeSize lo hi 1 := by rw [rangeSize_one]; split <;> omega
    show IsRangeIter _ _ (lo + ((0 : Nat) : Int) * 1) ((((hi - lo).toNat : Nat) : Int) - ((0 : Nat) : Int)) 1
    rw [e1, e2]
    exact Heap.get?_push_size _ rfl
  · have e : b = (s.heap.push { cls := .type "range", data := .fields #[.int lo t, .int hi u, .int 1 v] }).objs.size := by simpa using hb
    subst e
    exact I1.fpOk (Nat.le_refl _) (I1.hok.fresh (Nat.le_refl _))
def iRng1 (ta : TA) : TI := fun σ H R => ta σ H fun vs H1 => ∃ j : Int, vs = [.int j] ∧ -(2 ^ 62) ≤ j ∧ j < 2 ^ 62 ∧ R (Itr 0 j.toNat) H1
def iRng2 (ta : TA) : TI := fun σ H R => ta σ H fun vs H1 => ∃ i j : Int, vs = [.int i, .int j] ∧ (-(2 ^ 62) ≤ i ∧ i < 2 ^ 62 ∧ -(2 ^ 62) ≤ j ∧ j < 2 ^ 62) ∧ R (Itr i (j - i).toNat) H1
theorem pi_range1 {a : Expr} {ta : TA} {p pos : Pos} (hg : Gl X "range") (hm : X.mg "range" = none) (ha : PA X [a] ta) (hs : starEach [a] X.env = [(false, eval a X.env)] := by rfl) : PI X tg (.Call (.Name "range" p) [a] [] pos) (iRng1 ta) := by
  intro pins s σ H R I h
  refine Call_ (ld_blt I hg hm boot_range (PyProof.Rows.callWith_type1 (thn (ha pos pins s σ H _ I h) fun us s1 ⟨vs, H1, I1, r1, q1⟩ => ?_) hs rfl))
  obtain ⟨j, e, q1, q2, q⟩ := q1
  subst e
  cases r1 with
  | cons r rr =>
    cases rr
    obtain ⟨t, rfl⟩ := r
    exact call_range_1 (range_it I1 (by omega) (by omega) q1 q2 (by simpa using q))
theorem pi_range2 {a b : Expr} {ta : TA} {p pos : Pos} (hg : Gl X "range") (hm : X.mg "range" = none) (ha : PA X [a, b] ta) (hs : starEach [a, b] X.env = [(false, eval a X.env), (false, eval b X.env)] := by rfl) (hs2 : starEach [b] X.env = [(false, eval b X.env)] := by rfl) :
    PI X tg (.Call (.Name "range" p) [a, b] [] pos) (iRng2 ta) := by
  intro pins s σ H R I h
  refine Call_ (ld_blt I hg hm boot_range (PyProof.Rows.callWith_type1 (thn (ha pos pins s σ H _ I h) fun us s1 ⟨vs, H1, I1, r1, q1⟩ => ?_) (by rw [hs, hs2]) (by rw [hs2]; rfl)))
  obtain ⟨i, j, e, ⟨q1, q2, q3, q4⟩, q⟩ := q1
  subst e
  cases r1 with
  | cons r rr =>
    cases rr with
    | cons r' rr =>
      cases rr
      obtain ⟨t, rfl⟩ := r
      obtain ⟨t', rfl⟩ := r'
      exact call_range_2 (range_it I1 q1 q2 q3 q4 q)

def tFor (wi : TI) (g : TG) (tb : TS) : TS := fun D σ H => wi σ H fun J H1 => ∃ W : Nat → Nat → St → Hp → Prop, (∃ m, W 0 m σ H1) ∧ ∀ i m σ H, W i m σ H →
  (J.stop i H ∧ D.nx σ H) ∨ (J.go i H ∧ ∃ N : St → Hp → Prop, (∀ σ' H', N σ' H' → ∃ m', m' < m ∧ W (i + 1) m' σ' H') ∧ ∀ x H', J.yld i H x H' → g x σ H' fun σ2 H2 => tb { D with nx := N, ct := N, bk := D.nx } σ2 H2)
def pinsAt (fp : List Addr) (h : Heap) : List (Addr × Obj) := fp.filterMap fun b => (h.get? b).map fun o => (b, o)
theorem mem_pinsAt {fp : List Addr} {h : Heap} {b : Addr} {o : Obj} (hb : b ∈ fp) (e : h.get? b = some o) : (b, o) ∈ pinsAt fp h := List.mem_filterMap.mpr ⟨b, hb, by rw [e]; rfl⟩
theorem of_pinsAt {fp : List Addr} {h : Heap} {p : Addr × Obj} (hp : p ∈ pinsAt fp h) : p.1 ∈ fp ∧ h.get? p.1 = some p.2 := by
  obtain ⟨b, hb, e⟩ := List.mem_filterMap.mp hp
  cases q : h.get? b with
  | none => rw [q] at e; cases e
  | some o =>
    rw [q] at e
    have e' : (b, o) = p := Option.some.inj e
    subst e'
    exact ⟨hb, q⟩
theorem Inv.pinned {pins : List (Addr × Obj)} {σ : St} {H : Hp} {s : Shared} {fp : List Addr} (I : Inv X pins σ H s) (hf : ∀ b ∈ fp, FpOk X pins H b) (ho : ∀ b ∈ fp, ∃ o, s.heap.get? b = some o ∧ ∀ v, o.data ≠ .cell v) : Inv X (pins ++ pinsAt fp s.heap) σ H s :=
  I.pins_of fun p hp => (List.mem_append.mp hp).elim (fun z => I.pin p (List.mem_append_right _ z)) fun z => by
    obtain ⟨hb, e⟩ := of_pinsAt z
    obtain ⟨f0, f1, f2, _⟩ := hf p.1 hb
    obtain ⟨o, e', d⟩ := ho p.1 hb
    rw [e] at e'; cases e'
    exact ⟨e, f0, f1, f2, d⟩
theorem Inv.unpinned {pins pl : List (Addr × Obj)} {σ : St} {H : Hp} {s : Shared} (I : Inv X (pins ++ pl) σ H s) : Inv X pins σ H s := I.pins_of fun p hp => I.pin p (List.mem_append_right _ (List.mem_append_left _ hp))
theorem ps_for {iter : Expr} {body : List Stmt} {wi : TI} {g : TG} {tb : TS} {pos : Pos} (hp : PassesOwn (model X.prog X.w) X.A X.env X.xe) (hc : X.calm = true) (hi : PI X tg iter wi) (hg : PG X tg g) (hb : PSs X body tb)
    (hs : ∀ x, foldedSetIterable iter X.env x = pure x := by intro _; rfl) : PS X (.For tg iter body [] pos) (tFor wi g tb) := by
  intro pins s σ H D I h
  refine wpAny_For (thn (hi pins s σ H _ I h) fun v s1 h1 => thn h1 fun itv s2 h2 => ?_) hs
  obtain ⟨it, fp, tn, J, H2, e, I2, T, st2, f2, W, ⟨m0, w0⟩, turn⟩ := h2
  subst e
  -- what stays true of the iterator's objects through the loop
  have stat : ∀ {H' : Hp}, (∀ b ∈ fp, H' b = none) → ∀ b ∈ fp, FpOk X pins H' b := fun hn b hb => ⟨hn b hb, (f2 b hb).2⟩
  refine codeAny_forLoop_any (fun n s' => ∃ i σ' H', Inv X pins σ' H' s' ∧ tn i s'.heap ∧ (∀ b ∈ fp, H' b = none) ∧ W i n σ' H') ?_ m0 ⟨0, σ, H2, I2, st2, fun b hb => (f2 b hb).1, w0⟩
  rintro n s3 ⟨i, σ3, H3, I3, st3, fr3, w3⟩
  rcases turn i n σ3 H3 w3 with ⟨stop, qn⟩ | ⟨go, N, hN, step⟩
  · refine wpAny_passesOwn hp (thn (T.done X rfl rfl rfl hc i pins s3 σ3 H3 X.xe I3 (stat fr3) st3 stop) fun r s4 ⟨hr, I4⟩ => ?_)
    subst hr
    exact wpAny_execs_nil ⟨σ3, H3, I4, qn⟩
  · refine wpAny_passesOwn hp (thn (T.item X rfl rfl rfl hc i pins s3 σ3 H3 X.xe I3 (stat fr3) st3 go) fun r s4 ⟨u, hr, h4⟩ => ?_)
    subst hr
    refine wpAny_passesOwn hp (thn h4 fun _ s5 ⟨x, H5, I5, r5, y5, st5, fr5⟩ => ?_)
    have I5' := I5.pinned (stat fr5) (T.obj _ _ st5)
    refine wpAny_passesOwn hp (thn (hg _ s5 σ3 H5 x u _ I5' r5 (step x H5 y5)) fun _ s6 ⟨σ6, H6, I6, q6⟩ => ?_)
    refine wpAny_passesOwn hp (thn (hb _ s6 σ6 H6 _ I6 q6) fun f s7 q7 => ?_)
    have again : ∀ {σ7 : St} {H7 : Hp}, Inv X (pins ++ pinsAt fp s5.heap) σ7 H7 s7 → N σ7 H7 → ∃ m, m < n ∧ ∃ i σ' H', Inv X pins σ' H' s7 ∧ tn i s7.heap ∧ (∀ b ∈ fp, H' b = none) ∧ W i m σ' H' := fun {σ7 H7} I7 n7 => by
      obtain ⟨m', hm, w7⟩ := hN σ7 H7 n7
      refine ⟨m', hm, i + 1, σ7, H7, I7.unpinned, T.keep _ _ _ st5 fun b hb o e => (I7.pin (b, o) (List.mem_append_right _ (List.mem_append_right _ (mem_pinsAt hb e)))).1, fun b hb => ?_, w7⟩
      obtain ⟨o, e, d⟩ := T.obj _ _ st5 b hb
      exact (I7.pin (b, o) (List.mem_append_right _ (List.mem_append_right _ (mem_pinsAt hb e)))).2.1
    cases f with
    | next => obtain ⟨σ7, H7, I7, n7⟩ := q7; exact again I7 n7
    | cont => obtain ⟨σ7, H7, I7, n7⟩ := q7; exact again I7 n7
    | brk => obtain ⟨σ7, H7, I7, q7⟩ := q7; exact ⟨σ7, H7, I7.unpinned, q7⟩
    | ret v => obtain ⟨x7, σ7, H7, I7, r7, q7⟩ := q7; exact ⟨x7, σ7, H7, I7.unpinned, r7, q7⟩
end

theorem for_list {K : PySem.W.Frag} {a : Addr} {xs : List V} {g : TG} {tb : TS} {D : Ends} {σ : St} {H : Hp} (Pv : Nat → St → Hp → Prop) (h0 : Pv 0 σ H) (hl : ∀ i σ H, i ≤ xs.length → Pv i σ H → SqL K H a xs)
    (hs : ∀ i x σ H, xs[i]? = some x → Pv i σ H → g x σ H fun σ2 H2 => tb { D with nx := Pv (i + 1), ct := Pv (i + 1), bk := D.nx } σ2 H2) (hd : ∀ σ H, Pv xs.length σ H → D.nx σ H) :
    ∃ W : Nat → Nat → St → Hp → Prop, (∃ m, W 0 m σ H) ∧ ∀ i m σ H, W i m σ H →
      ((Itl K a).stop i H ∧ D.nx σ H) ∨ ((Itl K a).go i H ∧ ∃ N : St → Hp → Prop, (∀ σ' H', N σ' H' → ∃ m', m' < m ∧ W (i + 1) m' σ' H') ∧ ∀ x H', (Itl K a).yld i H x H' → g x σ H' fun σ2 H2 => tb { D with nx := N, ct := N, bk := D.nx } σ2 H2) := by
  refine ⟨fun i m σ H => m = xs.length - i ∧ i ≤ xs.length ∧ Pv i σ H, ⟨xs.length, by simp, Nat.zero_le _, h0⟩, ?_⟩
  rintro i m σ H ⟨rfl, hi, p⟩
  have q := hl i σ H hi p
  by_cases hlt : i < xs.length
  · refine .inr ⟨⟨xs, xs[i], q, by simp [hlt]⟩, Pv (i + 1), fun σ' H' p' => ⟨xs.length - (i + 1), by omega, rfl, hlt, p'⟩, fun x H' y => ?_⟩
    obtain ⟨e, y⟩ := y
    subst e
    exact hs i x σ _ (y xs q) p
  · have e : i = xs.length := by omega
    subst e
    exact .inl ⟨⟨xs, q, Nat.le_refl _⟩, hd σ H p⟩
theorem for_range {lo : Int} {n : Nat} {g : TG} {tb : TS} {D : Ends} {σ : St} {H : Hp} (Pv : Nat → St → Hp → Prop) (h0 : Pv 0 σ H)
    (hs : ∀ i σ H, i < n → Pv i σ H → g (.int (lo + i)) σ H fun σ2 H2 => tb { D with nx := Pv (i + 1), ct := Pv (i + 1), bk := D.nx } σ2 H2) (hd : ∀ σ H, Pv n σ H → D.nx σ H) :
    ∃ W : Nat → Nat → St → Hp → Prop, (∃ m, W 0 m σ H) ∧ ∀ i m σ H, W i m σ H →
      ((Itr lo n).stop i H ∧ D.nx σ H) ∨ ((Itr lo n).go i H ∧ ∃ N : St → Hp → Prop, (∀ σ' H', N σ' H' → ∃ m', m' < m ∧ W (i + 1) m' σ' H') ∧ ∀ x H', (Itr lo n).yld i H x H' → g x σ H' fun σ2 H2 => tb { D with nx := N, ct := N, bk := D.nx } σ2 H2) := by
  refine ⟨fun i m σ H => m = n - i ∧ i ≤ n ∧ Pv i σ H, ⟨n, by simp, Nat.zero_le _, h0⟩, ?_⟩
  rintro i m σ H ⟨rfl, hi, p⟩
  by_cases hlt : i < n
  · refine .inr ⟨hlt, Pv (i + 1), fun σ' H' p' => ⟨n - (i + 1), by omega, rfl, hlt, p'⟩, fun x H' y => ?_⟩
    obtain ⟨e, y⟩ := y
    subst e y
    exact hs i σ _ hlt p
  · have e : i = n := by omega
    subst e
    exact .inl ⟨Nat.le_refl _, hd σ H p⟩
theorem while_by {c : TT} {tb : TS} {D : Ends} {σ : St} {H : Hp} (Pv : St → Hp → Prop) (μ : St → Hp → Nat) (h0 : Pv σ H)
    (hs : ∀ σ H, Pv σ H → c σ H fun b H1 => if b = true then tb { D with nx := fun σ' H' => Pv σ' H' ∧ μ σ' H' < μ σ H, ct := fun σ' H' => Pv σ' H' ∧ μ σ' H' < μ σ H, bk := D.nx } σ H1 else D.nx σ H1)
    (mono : ∀ σ H Q Q', (∀ b H1, Q b H1 → Q' b H1) → c σ H Q → c σ H Q') : tWhile c tb D σ H := by
  refine ⟨fun m σ H => m = μ σ H ∧ Pv σ H, ⟨_, rfl, h0⟩, ?_⟩
  rintro m σ H ⟨rfl, p⟩
  refine mono σ H _ _ (fun b H1 q => ?_) (hs σ H p)
  cases b with
  | true => exact ⟨_, fun σ' H' ⟨p', l⟩ => ⟨_, l, rfl, p'⟩, q⟩
  | false => exact q
end L2

namespace L2
open PySem PySem.Spec PyProof.Rows

abbrev R2 := V → V → Hp → VK → Prop
def OpR (X : Cx) (f : Value → Value → Sem Value) (r : R2) : Prop :=
  ∀ (pins : List (Addr × Obj)) (s : Shared) (σ : St) (H : Hp) (x y : V) (v u : Value) (Q : VK), Inv X pins σ H s → RelV x v → RelV y u → r x y H Q →
    wpAny (model X.prog X.w) X.A (f v u) (EP X pins σ Q) X.xe s
def UnR (X : Cx) (f : Value → Sem Value) (r : V → Hp → VK → Prop) : Prop :=
  ∀ (pins : List (Addr × Obj)) (s : Shared) (σ : St) (H : Hp) (x : V) (v : Value) (Q : VK), Inv X pins σ H s → RelV x v → r x H Q →
    wpAny (model X.prog X.w) X.A (f v) (EP X pins σ Q) X.xe s
def CallR (X : Cx) (f : Value) (r : List V → Hp → VK → Prop) : Prop :=
  ∀ (pins : List (Addr × Obj)) (s : Shared) (σ : St) (H : Hp) (xs : List V) (us : List Value) (Q : VK), Inv X pins σ H s → Vals xs us → r xs H Q →
    wpAny (model X.prog X.w) X.A (call f us) (EP X pins σ Q) X.xe s
def tOp (r : R2) (ta tb : TE) : TE := fun σ H Q => ta σ H fun x H1 => tb σ H1 fun y H2 => r x y H2 Q
def tUn (r : V → Hp → VK → Prop) (ta : TE) : TE := fun σ H Q => ta σ H fun x H1 => r x H1 Q
def rI (C : Int → Int → Prop) (g : Int → Int → V) : R2 := fun x y H Q => ∃ i j, x = .int i ∧ y = .int j ∧ C i j ∧ Q (g i j) H
def rI0 (g : Int → Int → V) : R2 := fun x y H Q => ∃ i j, x = .int i ∧ y = .int j ∧ Q (g i j) H
def rU (g : Int → V) : V → Hp → VK → Prop := fun x H Q => ∃ i, x = .int i ∧ Q (g i) H

section
variable {X : Cx} {a b c : Expr} {ta tb tc : TE} {pos : Pos}

theorem binT (ha : PE X a ta) (hb : PE X b tb) {pins : List (Addr × Obj)} {s : Shared} {σ : St} {H : Hp} {R : V → V → Hp → Prop} (I : Inv X pins σ H s)
    (h : ta σ H fun x H1 => tb σ H1 fun y H2 => R x y H2) {Q : Value → Shared → Prop} {f : Value → Value → Sem Value}
    (hf : ∀ v u s2 x y H2, Inv X pins σ H2 s2 → RelV x v → RelV y u → R x y H2 → wpAny (model X.prog X.w) X.A (f v u) Q X.xe s2) :
    wpAny (model X.prog X.w) X.A (eval a X.env) (fun v s₁ => wpAny (model X.prog X.w) X.A (eval b X.env) (fun u s₂ => wpAny (model X.prog X.w) X.A (f v u) Q X.xe s₂) X.xe s₁) X.xe s := by
  refine thn (ha pins s σ H _ I h) fun v s1 ⟨x, H1, I1, r1, q1⟩ => ?_
  refine thn (hb pins s1 σ H1 _ I1 q1) fun u s2 ⟨y, H2, I2, r2, q2⟩ => ?_
  exact hf v u s2 x y H2 I2 r1 r2 q2

theorem pe_op {op : Operator} {r : R2} (ho : OpR X (binaryOp op) r) (ha : PE X a ta) (hb : PE X b tb) : PE X (.BinOp a op b pos) (tOp r ta tb) := by
  intro pins s σ H Q I h
  exact wpAny_BinOp (binT ha hb I h fun v u s2 x y H2 I2 rx ry q => ho pins s2 σ H2 x y v u Q I2 rx ry q)
theorem pe_un {op : UnaryOp} {r : V → Hp → VK → Prop} (ho : UnR X (unaryOp op) r) (ha : PE X a ta) : PE X (.UnaryOp op a pos) (tUn r ta) := by
  intro pins s σ H Q I h
  exact UnaryOp_ (thn (ha pins s σ H _ I h) fun v s1 ⟨x, H1, I1, r1, q1⟩ => ho pins s1 σ H1 x v Q I1 r1 q1)
theorem opI {f : Value → Value → Sem Value} {C : Int → Int → Prop} {g : Int → Int → Int}
    (rule : ∀ (i j : Int) (t u : Tok) (s : Shared) (Q : Value → Shared → Prop) (E : Value → Shared → Prop), C i j → Q (.int (g i j) s.toks) { s with toks := s.toks + 1 } → wpAny (model X.prog X.w) X.A (f (.int i t) (.int j u)) Q E s) :
    OpR X f (rI C fun i j => .int (g i j)) := by
  intro pins s σ H x y v u Q I rx ry h
  obtain ⟨i, j, rfl, rfl, hc, q⟩ := h
  obtain ⟨t, rfl⟩ := rx
  obtain ⟨t', rfl⟩ := ry
  exact rule i j t t' s _ _ hc ⟨.int (g i j), H, I.tok _, ⟨_, rfl⟩, q⟩
theorem opI0 {f : Value → Value → Sem Value} {g : Int → Int → Int}
    (rule : ∀ (i j : Int) (t u : Tok) (s : Shared) (Q : Value → Shared → Prop) (E : Value → Shared → Prop), Q (.int (g i j) s.toks) { s with toks := s.toks + 1 } → wpAny (model X.prog X.w) X.A (f (.int i t) (.int j u)) Q E s) :
    OpR X f (rI0 fun i j => .int (g i j)) := by
  intro pins s σ H x y v u Q I rx ry h
  obtain ⟨i, j, rfl, rfl, q⟩ := h
  obtain ⟨t, rfl⟩ := rx
  obtain ⟨t', rfl⟩ := ry
  exact rule i j t t' s _ _ ⟨.int (g i j), H, I.tok _, ⟨_, rfl⟩, q⟩
theorem opB0 {f : Value → Value → Sem Value} {g : Int → Int → Bool}
    (rule : ∀ (i j : Int) (t u : Tok) (s : Shared) (Q : Value → Shared → Prop) (E : Value → Shared → Prop), Q (.bool (g i j)) s → wpAny (model X.prog X.w) X.A (f (.int i t) (.int j u)) Q E s) :
    OpR X f (rI0 fun i j => .bl (g i j)) := by
  intro pins s σ H x y v u Q I rx ry h
  obtain ⟨i, j, rfl, rfl, q⟩ := h
  obtain ⟨t, rfl⟩ := rx
  obtain ⟨t', rfl⟩ := ry
  exact rule i j t t' s _ _ ⟨.bl (g i j), H, I, rfl, q⟩

def CDiv (i j : Int) : Prop := 0 < j ∧ j < 1073741824
def CMul (i j : Int) : Prop := (-(2 ^ 64) < i ∧ i < 2 ^ 64) ∨ (-(2 ^ 64) < j ∧ j < 2 ^ 64)
theorem CMul.ok {i j : Int} (h : CMul i j) : IntMulOk i j := by
  rcases h with ⟨h1, h2⟩ | ⟨h1, h2⟩
  · exact .of_left (intBits_le_64 h1 h2)
  · exact .of_right (intBits_le_64 h1 h2)
theorem op_add : OpR X (binaryOp .Add) (rI0 fun i j => .int (i + j)) := opI0 fun _ _ _ _ _ _ _ q => add_int q
theorem op_sub : OpR X (binaryOp .Sub) (rI0 fun i j => .int (i - j)) := opI0 fun _ _ _ _ _ _ _ q => sub_int q
theorem op_mul : OpR X (binaryOp .Mult) (rI CMul fun i j => .int (i * j)) := opI fun _ _ _ _ _ _ _ hc q => mul_int q hc.ok
theorem op_fdiv : OpR X (binaryOp .FloorDiv) (rI CDiv fun i j => .int (i / j)) := opI fun i j _ _ _ _ _ hc q => by
  have h1 : (0 : Int) < j := hc.1
  have h2 : j < 1073741824 := hc.2
  exact floordiv_int (by omega) (by rw [Int.fdiv_eq_ediv_of_nonneg i (by omega)]; exact q) (.inl (PyProof.noPylong_small (by omega)))
theorem op_mod : OpR X (binaryOp .Mod) (rI (fun _ j => 0 < j) fun i j => .int (i % j)) := opI fun i j _ _ _ _ _ hc q => by
  have h1 : (0 : Int) < j := hc
  exact mod_int' (by omega) (by rw [Int.fmod_eq_emod_of_nonneg i (by omega)]; exact q)
theorem unI {f : Value → Sem Value} {g : Int → Int}
    (rule : ∀ (i : Int) (t : Tok) (s : Shared) (Q : Value → Shared → Prop) (E : Value → Shared → Prop), Q (.int (g i) s.toks) { s with toks := s.toks + 1 } → wpAny (model X.prog X.w) X.A (f (.int i t)) Q E s) :
    UnR X f (rU fun i => .int (g i)) := by
  intro pins s σ H x v Q I rx h
  obtain ⟨i, rfl, q⟩ := h
  obtain ⟨t, rfl⟩ := rx
  exact rule i t s _ _ ⟨.int (g i), H, I.tok _, ⟨_, rfl⟩, q⟩
theorem un_neg : UnR X (unaryOp .USub) (rU fun i => .int (-i)) := unI fun _ _ _ _ _ q => neg_int q
end

def scal : V → V → Bool
  | .non, .non => true | .non, .int _ => true | .int _, .non => true | .non, .bl _ => true | .bl _, .non => true | .non, .str _ => true | .str _, .non => true
  | .int _, .int _ => true | .bl _, .bl _ => true | .str _, .str _ => true | .byt _, .byt _ => true
  | .int _, .str _ => true | .str _, .int _ => true | .bl _, .str _ => true | .str _, .bl _ => true
  | _, _ => false
def rEq : R2 := fun x y H Q => scal x y = true ∧ Q (.bl (decide (x = y))) H
def rNe : R2 := fun x y H Q => scal x y = true ∧ Q (.bl (!decide (x = y))) H

theorem dec_int {i j : Int} : decide (V.int i = V.int j) = (i == j) := by
  rw [Bool.eq_iff_iff]
  simp
theorem dec_bl {i j : Bool} : decide (V.bl i = V.bl j) = (i == j) := by
  rw [Bool.eq_iff_iff]
  simp
theorem dec_str {i j : Str} : decide (V.str i = V.str j) = (i == j) := by
  rw [Bool.eq_iff_iff]
  simp
theorem dec_byt {i j : Array UInt8} : decide (V.byt i = V.byt j) = (i.toList == j.toList) := by
  rw [Bool.eq_iff_iff]
  cases i
  cases j
  simp

section
variable {X : Cx} {a b c : Expr} {ta tb tc : TE} {pos : Pos}
theorem fin_bl {pins : List (Addr × Obj)} {σ : St} {H : Hp} {s : Shared} {Q : VK} {k k' : Bool} (I : Inv X pins σ H s) (q : Q (.bl k) H) (e : k = k') : EP X pins σ Q (.bool k') s := by
  subst e
  exact ⟨.bl k, H, I, rfl, q⟩
theorem op_eq : OpR X (compareOp .Eq) rEq := by
  intro pins s σ H x y v u Q I rx ry h
  obtain ⟨hs, q⟩ := h
  cases x with
  | non =>
    cases rx
    cases y with
    | non => cases ry; exact PySem.EqNone.eq_none_none (fin_bl I q (by simp))
    | bl j => cases ry; exact PySem.EqNone.eq_none_bool (fin_bl I q (by simp))
    | int j => obtain ⟨t', rfl⟩ := ry; exact PySem.EqNone.eq_none_int (fin_bl I q (by simp))
    | str j => obtain ⟨t', rfl⟩ := ry; exact PySem.EqNone.eq_none_str (fin_bl I q (by simp))
    | _ => exact absurd (show false = true from hs) Bool.false_ne_true
  | bl i =>
    cases rx
    cases y with
    | non => cases ry; exact PySem.EqNone.eq_bool_none (fin_bl I q (by simp))
    | bl j => cases ry; exact eq_bool (fin_bl I q dec_bl)
    | str j => obtain ⟨t', rfl⟩ := ry; exact PySem.EqMixed.eq_bool_str (fin_bl I q (by simp))
    | _ => exact absurd (show false = true from hs) Bool.false_ne_true
  | int i =>
    obtain ⟨t, rfl⟩ := rx
    cases y with
    | non => cases ry; exact PySem.EqNone.eq_int_none (fin_bl I q (by simp))
    | int j => obtain ⟨t', rfl⟩ := ry; exact eq_int (fin_bl I q dec_int)
    | str j => obtain ⟨t', rfl⟩ := ry; exact PySem.EqMixed.eq_int_str (fin_bl I q (by simp))
    | _ => exact absurd (show false = true from hs) Bool.false_ne_true
  | str i =>
    obtain ⟨t, rfl⟩ := rx
    cases y with
    | non => cases ry; exact PySem.EqNone.eq_str_none (fin_bl I q (by simp))
    | bl j => cases ry; exact PySem.EqMixed.eq_str_bool (fin_bl I q (by simp))
    | int j => obtain ⟨t', rfl⟩ := ry; exact PySem.EqMixed.eq_str_int (fin_bl I q (by simp))
    | str j => obtain ⟨t', rfl⟩ := ry; exact eq_str (fin_bl I q dec_str)
    | _ => exact absurd (show false = true from hs) Bool.false_ne_true
  | byt i =>
    obtain ⟨t, rfl⟩ := rx
    cases y with
    | byt j => obtain ⟨t', rfl⟩ := ry; exact PySem.W.eq_bytes (fin_bl I q dec_byt)
    | _ => exact absurd (show false = true from hs) Bool.false_ne_true
  | _ => cases y <;> exact absurd (show false = true from hs) Bool.false_ne_true
theorem op_ne : OpR X (compareOp .NotEq) rNe := by
  intro pins s σ H x y v u Q I rx ry h
  obtain ⟨hs, q⟩ := h
  cases x with
  | non =>
    cases rx
    cases y with
    | non => cases ry; exact PySem.EqNone.ne_none_none (fin_bl I q (by simp))
    | bl j => cases ry; exact PySem.EqNone.ne_none_bool (fin_bl I q (by simp))
    | int j => obtain ⟨t', rfl⟩ := ry; exact PySem.EqNone.ne_none_int (fin_bl I q (by simp))
    | str j => obtain ⟨t', rfl⟩ := ry; exact PySem.EqNone.ne_none_str (fin_bl I q (by simp))
    | _ => exact absurd (show false = true from hs) Bool.false_ne_true
  | bl i =>
    cases rx
    cases y with
    | non => cases ry; exact PySem.EqNone.ne_bool_none (fin_bl I q (by simp))
    | bl j => cases ry; exact ne_bool (fin_bl I q (congrArg not dec_bl))
    | str j => obtain ⟨t', rfl⟩ := ry; exact PySem.EqMixed.ne_bool_str (fin_bl I q (by simp))
    | _ => exact absurd (show false = true from hs) Bool.false_ne_true
  | int i =>
    obtain ⟨t, rfl⟩ := rx
    cases y with
    | non => cases ry; exact PySem.EqNone.ne_int_none (fin_bl I q (by simp))
    | int j => obtain ⟨t', rfl⟩ := ry; exact ne_int (fin_bl I q (congrArg not dec_int))
    | str j => obtain ⟨t', rfl⟩ := ry; exact PySem.EqMixed.ne_int_str (fin_bl I q (by simp))
    | _ => exact absurd (show false = true from hs) Bool.false_ne_true
  | str i =>
    obtain ⟨t, rfl⟩ := rx
    cases y with
    | non => cases ry; exact PySem.EqNone.ne_str_none (fin_bl I q (by simp))
    | bl j => cases ry; exact PySem.EqMixed.ne_str_bool (fin_bl I q (by simp))
    | int j => obtain ⟨t', rfl⟩ := ry; exact PySem.EqMixed.ne_str_int (fin_bl I q (by simp))
    | str j => obtain ⟨t', rfl⟩ := ry; exact ne_str (fin_bl I q (congrArg not dec_str))
    | _ => exact absurd (show false = true from hs) Bool.false_ne_true
  | byt i =>
    obtain ⟨t, rfl⟩ := rx
    cases y with
    | byt j => obtain ⟨t', rfl⟩ := ry; exact PySem.W.ne_bytes (fin_bl I q (congrArg not dec_byt))
    | _ => exact absurd (show false = true from hs) Bool.false_ne_true
  | _ => cases y <;> exact absurd (show false = true from hs) Bool.false_ne_true

theorem op_lt : OpR X (compareOp .Lt) (rI0 fun i j => .bl (decide (i < j))) := opB0 fun _ _ _ _ _ _ _ q => lt_int q
theorem op_gt : OpR X (compareOp .Gt) (rI0 fun i j => .bl (decide (j < i))) := opB0 fun _ _ _ _ _ _ _ q => gt_int q
theorem op_ge : OpR X (compareOp .GtE) (rI0 fun i j => .bl (decide (j ≤ i))) := opB0 fun _ _ _ _ _ _ _ q => ge_int q
theorem nomark (b : Expr) {op : CmpOp} (h : op ≠ .In := by decide) (h2 : op ≠ .NotIn := by decide) : behindInMarks op b = false := by
  have e1 : (op == CmpOp.In) = false := by cases op <;> first | rfl | exact absurd rfl h
  have e2 : (op == CmpOp.NotIn) = false := by cases op <;> first | rfl | exact absurd rfl h2
  cases b <;> simp [behindInMarks, e1, e2]
theorem pe_cmpR {op : CmpOp} {r : R2} (ho : OpR X (compareOp op) r) (ha : PE X a ta) (hb : PE X b tb) (hm : behindInMarks op b = false) : PE X (.Compare a [op] [b] pos) (tOp r ta tb) := by
  intro pins s σ H Q I h
  exact wpAny_Compare1 (binT ha hb I h fun v u s2 x y H2 I2 rx ry q => ho pins s2 σ H2 x y v u Q I2 rx ry q) hm
def tTest (t : TE) : TT := fun σ H Q => t σ H fun x H' => ∃ k, x = .bl k ∧ Q k H'
theorem pt_cmpR {op : CmpOp} {r : R2} (ho : OpR X (compareOp op) r) (ha : PE X a ta) (hb : PE X b tb) (hm : behindInMarks op b = false) : PT X (.Compare a [op] [b] pos) (tTest (tOp r ta tb)) := by
  intro pins s σ H Q I h
  refine wpAny_isTrue_Compare1 (thn (ha pins s σ H _ I h) fun v s1 ⟨x, H1, I1, r1, q1⟩ => thn (hb pins s1 σ H1 _ I1 q1) fun u s2 ⟨y, H2, I2, r2, q2⟩ =>
    thn (ho pins s2 σ H2 x y v u _ I2 r1 r2 q2) fun c s3 ⟨z, H3, I3, r3, k, e, q3⟩ => ?_) hm
  subst e
  cases r3
  exact wpAny_truthy_bool ⟨H3, I3, q3⟩
theorem line63 : (sizeLine : Nat) < 2 ^ 63 := by rw [sizeLine_eq]; decide
theorem op_add_str : OpR X (binaryOp .Add) (fun x y H Q => ∃ i j, x = .str i ∧ y = .str j ∧ i.length + j.length ≤ sizeLine ∧ Q (.str (i ++ j)) H) := by
  intro pins s σ H x y v u Q I rx ry h
  obtain ⟨i, j, rfl, rfl, hz, q⟩ := h
  obtain ⟨t, rfl⟩ := rx
  obtain ⟨t', rfl⟩ := ry
  exact add_str (fun t' tk => ⟨.str (i ++ j), H, I.tok _, ⟨_, rfl⟩, q⟩) hz
theorem vals1 {x : V} {us : List Value} (r : Vals [x] us) : ∃ u, us = [u] ∧ RelV x u := by
  cases r with
  | cons r1 r2 => cases r2; exact ⟨_, rfl, r1⟩
theorem vals2 {x y : V} {us : List Value} (r : Vals [x, y] us) : ∃ u w', us = [u, w'] ∧ RelV x u ∧ RelV y w' := by
  cases r with
  | cons r1 r2 =>
    cases r2 with
    | cons r3 r4 => cases r4; exact ⟨_, _, rfl, r1, r3⟩
theorem call_max2 (hc : X.calm = true) : CallR X (.builtin "max") (fun xs H Q => ∃ i j, xs = [.int i, .int j] ∧ Q (.int (if j > i then j else i)) H) := by
  intro pins s σ H xs us Q I r h
  obtain ⟨i, j, rfl, q⟩ := h
  obtain ⟨u, w', rfl, ⟨t, rfl⟩, ⟨t', rfl⟩⟩ := vals2 r
  refine max_two_ints (I.ok.hd hc) fun h' tk k => ⟨_, H, I.kept k, ?_, q⟩
  by_cases hj : j > i
  · rw [if_pos hj, if_pos hj]; exact ⟨_, rfl⟩
  · rw [if_neg hj, if_neg hj]; exact ⟨_, rfl⟩
theorem call_int1 : CallR X (.type "int") (fun xs H Q => (∃ i, xs = [.int i] ∧ Q (.int i) H) ∨ ∃ k, xs = [.bl k] ∧ Q (.int (if k then 1 else 0)) H) := by
  intro pins s σ H xs us Q I r h
  rcases h with ⟨i, rfl, q⟩ | ⟨k, rfl, q⟩
  · obtain ⟨u, rfl, t, rfl⟩ := vals1 r
    exact call_int_int ⟨.int i, H, I, ⟨_, rfl⟩, q⟩
  · obtain ⟨u, rfl, r1⟩ := vals1 r
    cases r1
    exact call_int_bool ⟨.int (if k then 1 else 0), H, I.tok _, ⟨_, rfl⟩, q⟩
end
end L2

namespace L2
open PySem PySem.Spec PyProof.Rows

structure ObjM (h : Heap) (x dx C : Addr) (mA : Str → Option Value) : Prop where
  obj : h.get? x = some (PySem.W.instObj C dx)
  ns : h.Ns1 dx mA
  ne : dx ≠ x

theorem lookIn_ns {h : Heap} {dx : Addr} {mA : Str → Option Value} (n : h.Ns1 dx mA) : ∃ od, h.get? dx = some od ∧ ∀ name, PySem.W.lookIn name od = some (mA name) := by
  obtain ⟨o, es, ep, ho, hd, hk, _, hm⟩ := n
  refine ⟨o, ho, fun name => ?_⟩
  have e := hm name
  unfold nsFind findBy at e
  rw [← Array.find?_toList] at e
  unfold PySem.W.lookIn
  rw [hd]
  dsimp only
  split
  · rename_i y q
    rw [q] at e
    exact congrArg some e
  · rename_i q
    rw [q] at e
    have a : es.toList.any (·.refKey) = false := by
      rw [List.any_eq_false]
      intro y hy
      obtain ⟨z, t, hkey⟩ := hk y (Array.mem_toList_iff.mp hy)
      simp [DictEntry.refKey, hkey]
    have a' : ¬ es.toList.any (·.refKey) = true := by rw [a]; exact Bool.false_ne_true
    rw [if_neg a']
    exact congrArg some e

theorem ObjM.look {h : Heap} {x dx C : Addr} {mA : Str → Option Value} (I : ObjM h x dx C mA) : ∃ od, PySem.W.InstAt h x (PySem.W.instObj C dx) C (some od) ∧ ∀ name, PySem.W.lookIn name od = some (mA name) :=
  let ⟨od, ho, hl⟩ := lookIn_ns I.ns
  ⟨od, ⟨I.obj, rfl, rfl, ho⟩, hl⟩

section
variable {prog : Program} {w : World} {A : Around} {E : Value → Shared → Prop} {s : Shared} {K : PySem.W.Frag} {x dx C f : Addr} {mA : Str → Option Value} {name : Str} {v : Value}

theorem get_map {expr : Bool} {Q : Value → Shared → Prop} (X : K.In s.heap) (I : ObjM s.heap x dx C mA) (hg : PySem.W.plainGet K C name = true) (hh : PySem.W.hasDictIn K C = true)
    (ha : PySem.W.findIn K (.ref C) name = some none) (hv : mA name = some v) (hv' : PySem.W.handedIn v = true) (h : Q v { s with toks := s.toks + 1 }) :
    wpAny (model prog w) A (getAttr (.ref x) name expr) Q E s := by
  obtain ⟨od, J, hl⟩ := I.look
  exact PySem.W.get_value X J (PySem.W.plainGet_of hg).1 (PySem.W.findObj_own hh ha rfl (by rw [hl, hv])) hv' h

end

theorem RelO.some_of {v : V} {o : Option Value} (r : RelO (some v) o) : ∃ u, o = some u ∧ RelV v u := by
  cases o with
  | none => exact (show False from r).elim
  | some u => exact ⟨u, rfl, r⟩
theorem RelO.none_of {o : Option Value} (r : RelO none o) : o = none := by
  cases o with
  | none => rfl
  | some u => exact (show False from r).elim
section
variable {P : Program} {w : World} {H H' : Hp} {h h' : Heap} {a C dx : Addr} {fs fs' : List (Str × V)}
theorem ins_get (hok : HOk P w H h) (e : H a = some (.ins C dx fs)) : ∃ mA, ObjM h a dx C mA ∧ (∀ f, RelO (fs.lookup f) (mA f)) ∧ PySem.Within mA (fs.map (·.1)) ∧ fs.length ≤ 1000 ∧ H dx = some (.own a) := by
  obtain ⟨d, z, ne, ob, mA, n, r, q⟩ := (show ObjOk P w H h a (.ins C dx fs) from hok a _ e)
  exact ⟨mA, ⟨ob, n, ne⟩, r, q, z, d⟩
end

structure Cls (K : PySem.W.Frag) (C : Addr) : Prop where
  pg : PySem.W.plainGet K C Str.empty = true
  hd : PySem.W.hasDictIn K C = true
  po : PySem.W.plainOver K C = true
  sa : PySem.W.findIn K (.ref C) "__setattr__" = some (some (.builtin "object.__setattr__"))
theorem Cls.get {K : PySem.W.Frag} {C : Addr} (c : Cls K C) (f : Str) : PySem.W.plainGet K C f = true := c.pg
structure Con (K : PySem.W.Frag) (C : Addr) (f : Str) (v : V) (u : Value) : Prop where
  at_ : PySem.W.findIn K (.ref C) f = some (some u)
  rel : RelV v u
  get : PySem.W.specialIn K u "__get__" = some none
  cp : PySem.W.copiedNames.contains f = false
structure Meth (K : PySem.W.Frag) (C : Addr) (m : Str) (f : Addr) : Prop where
  at_ : PySem.W.findIn K (.ref C) m = some (some (.ref f))
  fn : PySem.W.isFn K (.ref f) = true
  kp : PySem.W.keepIn K (.ref f) = true

section
variable {X : Cx} {pins : List (Addr × Obj)} {σ : St} {H : Hp} {s : Shared} {a C dx : Addr} {fs : List (Str × V)} {f : Str} {v : V} {A : Around} {E : Value → Shared → Prop}

end

section
variable {X : Cx} {o e value : Expr} {f : Str} {pos pos' tpos : Pos} {ta tv : TE}
end

section
variable {X : Cx} {pins : List (Addr × Obj)} {σ : St} {H : Hp} {s : Shared} {A : Around} {E : Value → Shared → Prop} {Q : Value → Shared → Prop} {c : Value} {b : Bool}
inductive TyOf (K : PySem.W.Frag) (H : Hp) : V → Value → Prop where
  | non : TyOf K H .non (.type "NoneType")
  | bl (x : Bool) : TyOf K H (.bl x) (.type "bool")
  | int (i : Int) : TyOf K H (.int i) (.type "int")
  | str (x : Str) : TyOf K H (.str x) (.type "str")
  | flt (x : UInt64) : TyOf K H (.flt x) (.type "float")
  | lst {a : Addr} {xs : List V} (e : H a = some (.lst xs)) : TyOf K H (.ref a) (.type "list")
  | frz {a : Addr} {o : Obj} {xs : List V} (e : H a = some (.frz o (.lst xs))) : TyOf K H (.ref a) (.type "list")
  | tup {a : Addr} {xs : List V} (e : H a = some (.tup xs)) : TyOf K H (.ref a) (.type "tuple")
  | dK {a : Addr} {kvs : List (Key × V)} (e : H a = some (.dK kvs)) : TyOf K H (.ref a) (.type "dict")
  | dT {a : Addr} {kvs : List (List Key × V)} (e : H a = some (.dT kvs)) : TyOf K H (.ref a) (.type "dict")
  | ins {a C dx : Addr} {fs : List (Str × V)} (e : H a = some (.ins C dx fs)) (cl : Cls K C) (ha : PySem.W.findIn K (.ref C) "__class__" = some (some (.builtin "object.__class__")))
      (hn : PySem.W.specialIn K (.builtin "object.__class__") "__get__" = some (some (.builtin "getset_descriptor.__get__"))) (htk : PySem.W.takesIn K (.builtin "object.__class__") = some true)
      (hm : PySem.W.mroIn K C (.type "object") = some true) : TyOf K H (.ref a) (.ref C)
theorem isinst_ok {x : V} {u t : Value} (I : Inv X pins σ H s) (rx : RelV x u) (ty : TyOf X.K H x t) (e : PySem.W.kitOne X.K t c = some b) (h : ∀ tk, Q (.bool b) { s with toks := tk }) :
    wpAny (model X.prog X.w) A (call (.builtin "isinstance") [u, c]) Q E s := by
  cases ty with
  | non => cases (show u = Value.none from rx); exact PySem.W.kia_one PySem.W.kitx_none I.kIn True.intro e (fun z => nomatch z) h
  | bl y => cases (show u = Value.bool y from rx); exact PySem.W.kia_one PySem.W.kitx_bool I.kIn True.intro e (fun z => nomatch z) h
  | int i => obtain ⟨t, q⟩ := (show ∃ t, u = Value.int i t from rx); cases q; exact PySem.W.kia_one PySem.W.kitx_int I.kIn True.intro e (fun z => nomatch z) h
  | str y => obtain ⟨t, q⟩ := (show ∃ t, u = Value.str y t from rx); cases q; exact PySem.W.kia_one PySem.W.kitx_str I.kIn True.intro e (fun z => nomatch z) h
  | flt y => obtain ⟨t, q⟩ := (show ∃ t, u = Value.float y t from rx); cases q; exact PySem.W.kia_one PySem.W.kitx_float I.kIn True.intro e (fun z => nomatch z) h
  | @lst a xs ea =>
    cases (show u = Value.ref a from rx)
    obtain ⟨_, _, n, _, h1⟩ := (show ObjOk X.prog X.w H s.heap a (.lst xs) from I.hok a _ ea)
    exact PySem.W.kia_one PySem.W.kitx_list I.kIn ⟨_, h1, rfl⟩ e (fun z => nomatch z) h
  | @frz a ob xs ea =>
    cases (show u = Value.ref a from rx)
    obtain ⟨_, _, _, n, _, h1⟩ := (show ObjOk X.prog X.w H s.heap a (.frz ob (.lst xs)) from I.hok a _ ea)
    exact PySem.W.kia_one PySem.W.kitx_list I.kIn ⟨_, h1, rfl⟩ e (fun z => nomatch z) h
  | @tup a xs ea =>
    cases (show u = Value.ref a from rx)
    obtain ⟨_, _, _, p⟩ := (show ObjOk X.prog X.w H s.heap a (.tup xs) from I.hok a _ ea)
    obtain ⟨o, h1, h2, _⟩ := p
    exact PySem.W.kia_one PySem.W.kitx_tuple I.kIn ⟨o, h1, h2⟩ e (fun z => nomatch z) h
  | @dK a kvs ea =>
    cases (show u = Value.ref a from rx)
    obtain ⟨_, _, vs, _, p⟩ := (show ObjOk X.prog X.w H s.heap a (.dK kvs) from I.hok a _ ea)
    obtain ⟨o, es, ep, h1, h2, _⟩ := p
    exact PySem.W.kia_one PySem.W.kitx_dict I.kIn ⟨o, h1, h2.1⟩ e (fun z => nomatch z) h
  | @dT a kvs ea =>
    cases (show u = Value.ref a from rx)
    obtain ⟨_, _, xs, _, o, es, ep, h1, h2, _⟩ := (show ObjOk X.prog X.w H s.heap a (.dT kvs) from I.hok a _ ea)
    exact PySem.W.kia_one PySem.W.kitx_dict I.kIn ⟨o, h1, h2.1⟩ e (fun z => nomatch z) h
  | @ins a C dx fs ea cl ha hn htk hm =>
    cases (show u = Value.ref a from rx)
    obtain ⟨mA, O, _⟩ := ins_get I.hok ea
    obtain ⟨od, J, _⟩ := O.look
    exact PySem.W.kia_one (PySem.W.kitx_own (cl.get _) cl.hd ha hn htk hm) I.kIn J e (fun z => nomatch z) h
end
end L2

namespace L2
open PySem PySem.Spec PyProof.Rows

structure Room (k : Nat) (A : Around) : Prop where
  hd : A.handled = none
  dp : A.depth + 3 * k + 5 < recursionLimit
  un : A.units + 16 * k + 200 < cLine
theorem Room.mono {j k : Nat} {A : Around} (r : Room k A) (h : j ≤ k) : Room j A := ⟨r.hd, by have := r.dp; omega, by have := r.un; omega⟩
theorem Room.deeper {k : Nat} {A : Around} (r : Room (k + 1) A) (env : Env) : Room k (A.deeper env) :=
  ⟨r.hd, by have := r.dp; show A.depth + 1 + 3 * k + 5 < _; omega, by have := r.un; show A.units + 3 + 16 * k + 200 < _; omega⟩
theorem Room.in1 {k : Nat} {A : Around} (r : Room (k + 1) A) : Room k A.in1 :=
  ⟨r.hd, by have := r.dp; show A.depth + 3 * k + 5 < _; omega, by have := r.un; show A.units + 1 + 16 * k + 200 < _; omega⟩
theorem Room.depth {k : Nat} {A : Around} (r : Room k A) : A.depth < recursionLimit := by have := r.dp; omega
theorem Room.units {k : Nat} {A : Around} (r : Room k A) : A.units + 64 < cLine := by have := r.un; omega
theorem Room.units0 {k : Nat} {A : Around} (r : Room k A) : A.units < cLine := by have := r.un; omega

def tNil : TA := fun _ H Q => Q [] H
def tCons (ta : TE) (tr : TA) : TA := fun σ H Q => ta σ H fun x H1 => tr σ H1 fun xs H2 => Q (x :: xs) H2
section
variable {X : Cx} {e : Expr} {es : List Expr} {te : TE} {t : TA} {pos : Pos}
theorem pa_nil : PA X [] tNil := fun _ _ _ _ H Q I h => Calls.spliced_nil ⟨[], H, I, .nil, h⟩
theorem pa_cons (ha : PE X e te) (hr : PA X es t) (hs : starEach (e :: es) X.env = (false, eval e X.env) :: starEach es X.env := by rfl) : PA X (e :: es) (tCons te t) := by
  intro pos pins s σ H Q I h
  rw [hs]
  show wpAny _ _ (spliced ((false, eval e X.env) :: backTo pos (starEach es X.env))) _ _ s
  refine Calls.spliced_cons (thn (ha pins s σ H _ I h) fun u s1 ⟨x, H1, I1, r1, q1⟩ => ?_)
  exact thn (hr pos pins s1 σ H1 _ I1 q1) fun us s2 ⟨xs, H2, I2, r2, q2⟩ => ⟨x :: xs, H2, I2, .cons r1 r2, q2⟩

def tTup (t : TA) : TE := fun σ H Q => t σ H fun xs H1 => xs.length ≤ sizeLine ∧ ∀ p, H1 p = none → Q (.ref p) (upd H1 p (.tup xs))
def tLst (t : TA) : TE := fun σ H Q => t σ H fun xs H1 => xs.length ≤ sizeLine ∧ ∀ p, H1 p = none → Q (.ref p) (upd H1 p (.lst xs))
theorem pe_tup {x1} (h : PA X es t) : PE X (.Tuple es x1 pos) (tTup t) := by
  intro pins s σ H Q I hq
  refine wpAny_Tuple_spliced (thn (h pos pins s σ H _ I hq) fun us s1 ⟨xs, H1, I1, r, z, q⟩ => ⟨by rw [← r.length]; exact z, ?_⟩)
  have hf : H1 s1.heap.objs.size = none := I1.hok.fresh (Nat.le_refl _)
  refine ⟨.ref s1.heap.objs.size, upd H1 s1.heap.objs.size (.tup xs), I1.laid (t' := s1.toks) (fun b u e => Heap.get?_push_of_some _ e) (Nat.le_refl _) ?_, rfl, q _ hf⟩
  exact ⟨z, us, r, ⟨_, Heap.get?_push_size _ rfl, rfl, _, rfl⟩⟩
theorem pe_lst (h : PA X es t) : PE X (.List es pos) (tLst t) := by
  intro pins s σ H Q I hq
  refine wpAny_List_spliced (thn (h pos pins s σ H _ I hq) fun us s1 ⟨xs, H1, I1, r, z, q⟩ => ⟨by rw [← r.length]; exact z, ?_⟩)
  have hf : H1 s1.heap.objs.size = none := I1.hok.fresh (Nat.le_refl _)
  refine ⟨.ref s1.heap.objs.size, upd H1 s1.heap.objs.size (.lst xs), I1.laid (t' := s1.toks) (fun b u e => Heap.get?_push_of_some _ e) (Nat.le_refl _) ?_, rfl, q _ hf⟩
  exact ⟨z, us, 0, r, Heap.get?_push_size _ rfl⟩
end

abbrev Sp := List V → Hp → VK → XK → Prop
abbrev CXT := List Env → Hp → Shared → XK → Value → Shared → Prop

structure Env0 (P : Program) (w : World) (K : PySem.W.Frag) (mg : Str → Option Value) (base : Heap) (A : Around) (outer : List Env) (s : Shared) (H : Hp) : Prop where
  frames : A.frames = some outer
  mod : Mod K mg base
  bs : ∀ b o, base.get? b = some o → s.heap.get? b = some o ∧ H b = none
  bsz : base.objs.size ≤ s.heap.objs.size
  funs : s.heap.FunFrames base outer
  frf : ∀ b ∈ frs outer, H b = none
  hok : HOk P w H s.heap
  bare : AllBare s.gens
def CE (outer : List Env) (P : Program) (w : World) (H : Hp) (s : Shared) (Q : VK) (u : Value) (s' : Shared) : Prop :=
  ∃ v H', s'.os = s.os ∧ AllBare s'.gens ∧ Un (frs outer) [] H H' s.heap s'.heap ∧ HOk P w H' s'.heap ∧ RelV v u ∧ Q v H'
def CR (CX : CXT) (outer : List Env) (P : Program) (w : World) (H : Hp) (s : Shared) (Q : VK) (E : XK) (r : Result) (s' : Shared) : Prop :=
  match r with
  | .ok (.ret u) => CE outer P w H s Q u s'
  | .ok _ => False
  | .error e => CX outer H s E e s'
structure FnOk (P : Program) (w : World) (K : PySem.W.Frag) (mg : Str → Option Value) (base : Heap) (CX : CXT) (k : Nat) (f : Addr) (fd : FuncData) (ps : List Str) (sp : Sp) : Prop where
  len : ∀ vs H Q E, sp vs H Q E → vs.length = ps.length
  run : ∀ (A : Around) (outer : List Env) (s : Shared) (H : Hp) (args : Args) (us : List Value) (vs : List V) (Q : VK) (E : XK), Room k A → Env0 P w K mg base A outer s H → BindsTo s fd args (ps.zip us) → Vals vs us → sp vs H Q E →
    codeAny (model P w) A (.call (.ref f) args) (CR CX outer P w H s Q E) s
theorem FnOk.mono {P : Program} {w : World} {K : PySem.W.Frag} {mg : Str → Option Value} {base : Heap} {CX : CXT} {j k : Nat} {f : Addr} {fd : FuncData} {ps : List Str} {sp : Sp} (F : FnOk P w K mg base CX j f fd ps sp) (h : j ≤ k) :
    FnOk P w K mg base CX k f fd ps sp := ⟨F.len, fun A outer s H args us vs Q E hr => F.run A outer s H args us vs Q E (hr.mono h)⟩
theorem FnOk.imp {P : Program} {w : World} {K : PySem.W.Frag} {mg : Str → Option Value} {base : Heap} {CX : CXT} {k : Nat} {f : Addr} {fd : FuncData} {ps : List Str} {sp sp' : Sp} (F : FnOk P w K mg base CX k f fd ps sp)
    (h : ∀ vs H Q E, sp' vs H Q E → sp vs H Q E) : FnOk P w K mg base CX k f fd ps sp' :=
  ⟨fun vs H Q E q => F.len vs H Q E (h _ _ _ _ q), fun A outer s H args us vs Q E hr he hb hv hs => F.run A outer s H args us vs Q E hr he hb hv (h _ _ _ _ hs)⟩

theorem Env0.in1 {P : Program} {w : World} {K : PySem.W.Frag} {mg : Str → Option Value} {base : Heap} {A : Around} {outer : List Env} {s : Shared} {H : Hp} (e : Env0 P w K mg base A outer s H) :
    Env0 P w K mg base A.in1 outer s H := ⟨e.frames, e.mod, e.bs, e.bsz, e.funs, e.frf, e.hok, e.bare⟩

section
variable {X : Cx} {pins : List (Addr × Obj)} {σ : St} {H : Hp} {s s' : Shared}
theorem Inv.env0 (I : Inv X pins σ H s) : Env0 X.prog X.w X.K X.mg X.base X.A X.stack s H :=
  ⟨I.ok.frames, I.ok.mod, I.bs, Nat.le_trans I.ok.bsz I.sz, I.stack, I.stkFree, I.hok, I.bare⟩
theorem Inv.after {Q : VK} {u : Value} (I : Inv X pins σ H s) (h : CE X.stack X.prog X.w H s Q u s') : EP X pins σ Q u s' := by
  obtain ⟨v, H', os, bare, un, hok, r, q⟩ := h
  obtain ⟨hh, g, d, t, os'⟩ := s'
  obtain rfl : os' = s.os := os
  exact ⟨v, H', I.call (h' := hh) (g' := g) (d' := d) (t' := t) (ch := []) un hok bare (fun b z => absurd z (by simp)), r, q⟩
end

def tCall (sp : Sp) (dvs : List V) (E : XK) (t : TA) : TE := fun σ H Q => t σ H fun vs H1 => sp (vs ++ dvs) H1 Q E
def Binds (K : PySem.W.Frag) (fd : FuncData) (ps : List Str) (ds : List Value) : Prop :=
  ∀ (s : Shared) (us : List Value), K.In s.heap → (us ++ ds).length = ps.length → BindsTo s fd ⟨us, []⟩ (ps.zip (us ++ ds))
theorem Binds.all {K : PySem.W.Frag} {fd : FuncData} {ps : List Str} (h : ∀ us : List Value, us.length = ps.length → bindArgs fd ⟨us, []⟩ = pure (ps.zip us)) : Binds K fd ps [] := fun s us _ hl => by
  rw [List.append_nil] at hl ⊢
  exact .of_eq (h us hl)

def Passes (CX : CXT) (X : Cx) (E : XK) : Prop := ∀ (pins : List (Addr × Obj)) (σ : St) (H : Hp) (s : Shared) (e : Value) (s' : Shared), Inv X pins σ H s → CX X.stack H s E e s' → X.xe e s'

section
variable {X : Cx} {CX : CXT} {k : Nat} {f C : Addr} {fd : FuncData} {ps : List Str} {sp : Sp} {dvs : List V} {ds : List Value} {E : XK} {x m : Str} {p pos apos : Pos} {e o : Expr} {es : List Expr} {ta : TE} {t : TA}

theorem run_fn {pins : List (Addr × Obj)} {σ : St} {H : Hp} {s : Shared} {Q : VK} {us : List Value} {vs : List V} (F : FnOk X.prog X.w X.K X.mg X.base CX k f fd ps sp) (hr : Room k X.A) (hb : Binds X.K fd ps ds) (hd : Vals dvs ds) (hx : Passes CX X E)
    (I : Inv X pins σ H s) (r : Vals vs us) (h : sp (vs ++ dvs) H Q E) : wpAny (model X.prog X.w) X.A (call (.ref f) us) (EP X pins σ Q) X.xe s := by
  have r2 : Vals (vs ++ dvs) (us ++ ds) := r.append hd
  have hl : (us ++ ds).length = ps.length := by rw [← r2.length]; exact F.len _ _ _ _ h
  refine wpAny_call (codeAny_mono (F.run X.A X.stack s H ⟨us, []⟩ (us ++ ds) (vs ++ dvs) Q E hr I.env0 (hb s us I.kIn hl) r2 h) fun r s' hq => ?_)
  cases r with
  | error e => exact hx pins σ H s e s' I hq
  | ok fl =>
    cases fl with
    | ret u => exact I.after hq
    | next => exact False.elim hq
    | brk => exact False.elim hq
    | cont => exact False.elim hq

theorem pe_call (F : FnOk X.prog X.w X.K X.mg X.base CX k f fd ps sp) (hr : Room k X.A) (hg : Gl X x) (hm : X.mg x = some (.ref f)) (hk : PySem.W.keepIn X.K (.ref f) = true) (hb : Binds X.K fd ps ds) (hd : Vals dvs ds) (hx : Passes CX X E)
    (ha : PA X (e :: es) t) (hdb : (x == ("__debug__" : Str)) = false := by decide) (he : starEach (e :: es) X.env = (false, eval e X.env) :: starEach es X.env := by rfl) (hpl : (backTo pos (starEach es X.env)).any (·.1) = false := by rfl) :
    PE X (.Call (.Name x p) (e :: es) [] pos) (tCall sp dvs E t) := by
  intro pins s σ H Q I h
  refine wpAny_Call_Name_kw (ld_glob I hg hm ?_ hdb)
  refine PySem.W.callWith_K (h₀ := X.base) I.ok.mod.kin hk (thn (ha pos pins s σ H _ I h) fun us s1 ⟨vs, H1, I1, r, q⟩ => ⟨I1.kIn, ?_⟩) he hpl
  exact run_fn F hr hb hd hx I1 r q
structure Mk (K : PySem.W.Frag) (C f : Addr) : Prop where
  makes : PySem.W.makesIn K C = true
  init : PySem.W.findIn K (.ref C) "__init__" = some (some (.ref f))
  fn : PySem.W.isFn K (.ref f) = true
  kp : PySem.W.keepIn K (.ref C) = true

end

section
variable {X : Cx} {CX : CXT} {k : Nat} {f C : Addr} {fd : FuncData} {ps ks : List Str} {sp : Sp} {E : XK} {x m : Str} {p pos apos kpos : Pos} {e o : Expr} {es : List Expr} {kws : List Keyword} {te ta : TE} {t tk : TA} {nm : Option Str}
structure KBinds (K : PySem.W.Frag) (fd : FuncData) (ps ks : List Str) (g : List Value → List Value → List Value) (gV : List V → List V → List V) : Prop where
  to : ∀ (s : Shared) (us ws : List Value), K.In s.heap → (g us ws).length = ps.length → BindsTo s fd ⟨us, ks.zip ws⟩ (ps.zip (g us ws))
  rel : ∀ {vs : List V} {us : List Value} {zs : List V} {ws : List Value}, Vals vs us → Vals zs ws → Vals (gV vs zs) (g us ws)
variable {g : List Value → List Value → List Value} {gV : List V → List V → List V}
end

structure FnScope (N P : List Str) (sc : Scope) : Prop where
  kind : sc.kind = .function
  co : sc.isCoroutine = false
  gen : sc.isGenerator = false
  nd : N.Nodup
  pre : N.take P.length = P
  par : ∀ x ∈ P, sc.names.lookup x = some .local ∨ sc.names.lookup x = some .cell
  nofree : ∀ y ∈ sc.names, y.2 ≠ .free

theorem bindL_out {kindOf : Str → Option NameKind} {x : Str} : ∀ {binds : List (Str × Value)} {m : Str → Option Value}, (∀ v, (x, v) ∉ binds) → bindL kindOf binds m x = m x
  | [], _, _ => rfl
  | (n, v) :: r, m, h => by
    unfold bindL
    rw [bindL_out fun w hw => h w (List.mem_cons_of_mem _ hw)]
    split
    · have : x ≠ n := by rintro rfl; exact h v List.mem_cons_self
      simp [this]
    · rfl
theorem bindC_out {kindOf : Str → Option NameKind} {x : Str} : ∀ {binds : List (Str × Value)} {m : Str → Option Value}, (∀ v, (x, v) ∉ binds) → bindC kindOf binds m x = m x
  | [], _, _ => rfl
  | (n, v) :: r, m, h => by
    unfold bindC
    rw [bindC_out fun w hw => h w (List.mem_cons_of_mem _ hw)]
    split
    · rfl
    · have : x ≠ n := by rintro rfl; exact h v List.mem_cons_self
      simp [this]
theorem bindL_get {kindOf : Str → Option NameKind} {x : Str} {v : Value} : ∀ {P : List Str} {vs : List Value} {i : Nat} {m : Str → Option Value}, P.Nodup → P[i]? = some x → vs[i]? = some v → kindOf x = some .local →
    bindL kindOf (P.zip vs) m x = some v
  | [], _, _, _, _, h, _, _ => by simp at h
  | _ :: _, [], _, _, _, _, h, _ => by simp at h
  | p :: P, w :: vs, 0, m, nd, h1, h2, hk => by
    simp at h1 h2; subst h1; subst h2
    show bindL kindOf ((p, w) :: P.zip vs) m p = _
    unfold bindL
    rw [bindL_out fun v hv => (List.nodup_cons.mp nd).1 (List.of_mem_zip hv).1, if_pos hk]
    simp
  | p :: P, w :: vs, i + 1, m, nd, h1, h2, hk => by
    show bindL kindOf ((p, w) :: P.zip vs) m x = _
    unfold bindL
    exact bindL_get (i := i) (List.nodup_cons.mp nd).2 (by simpa using h1) (by simpa using h2) hk
theorem bindC_get {kindOf : Str → Option NameKind} {x : Str} {v : Value} : ∀ {P : List Str} {vs : List Value} {i : Nat} {m : Str → Option Value}, P.Nodup → P[i]? = some x → vs[i]? = some v → kindOf x ≠ some .local →
    bindC kindOf (P.zip vs) m x = some v
  | [], _, _, _, _, h, _, _ => by simp at h
  | _ :: _, [], _, _, _, _, h, _ => by simp at h
  | p :: P, w :: vs, 0, m, nd, h1, h2, hk => by
    simp at h1 h2; subst h1; subst h2
    show bindC kindOf ((p, w) :: P.zip vs) m p = _
    unfold bindC
    rw [bindC_out fun v hv => (List.nodup_cons.mp nd).1 (List.of_mem_zip hv).1, if_neg hk]
    simp
  | p :: P, w :: vs, i + 1, m, nd, h1, h2, hk => by
    show bindC kindOf ((p, w) :: P.zip vs) m x = _
    unfold bindC
    exact bindC_get (i := i) (List.nodup_cons.mp nd).2 (by simpa using h1) (by simpa using h2) hk

def start (N : List Str) (vs : List V) : St := vs.map some ++ List.replicate (N.length - vs.length) none

def cxOf (CX : CXT) (P : Program) (w : World) (K : PySem.W.Frag) (mg : Str → Option Value) (base : Heap) (N : List Str) (qual : Str) (scope : Scope) (f : Addr) (cd : Value) (A : Around) (outer : List Env) (s : Shared) (H : Hp) (E : XK) : Cx where
  prog := P
  w := w
  K := K
  mg := mg
  base := base
  A := A.deeper (envOfC qual scope s.heap.objs.size f cd)
  N := N
  s₀ := s
  H₀ := H
  env := envOfC qual scope s.heap.objs.size f cd
  outer := outer
  stack := envOfC qual scope s.heap.objs.size f cd :: outer
  ex := []
  calm := true
  fn := fun _ => true
  pn := []
  xe := fun e s' => wpAny (model P w) (A.deeper (envOfC qual scope s.heap.objs.size f cd)) (leaving (envOfC qual scope s.heap.objs.size f cd) e) (fun _ s'' => CX outer H s E e s'') (fun e' s'' => CX outer H s E e' s'') s'

theorem cell_has {sc : Scope} {n : Nat} {x : Str} (h : sc.names.lookup x = some .cell) : ∃ c, (cellsFrom n sc.names []).lookup x = some c := by
  have q := PySem.W.cellsFrom_some sc.names n [] (.inl h)
  exact Option.isSome_iff_exists.mp q

theorem inv_start {CX : CXT} {P : Program} {w : World} {K : PySem.W.Frag} {mg : Str → Option Value} {base : Heap} {N ps : List Str} {qual : Str} {scope : Scope} {f : Addr} {cd : Value} {A : Around} {outer : List Env} {s s1 : Shared} {H : Hp} {E : XK} {us : List Value} {vs : List V}
    (S : FnScope N ps scope) (hd : A.handled = none) (e0 : Env0 P w K mg base A outer s H) (hl : vs.length = ps.length) (r : Vals vs us)
    (x : InCallC s s.heap.objs.size (bindL (envOfC qual scope s.heap.objs.size f cd).kindOf (ps.zip us) fun _ => none) (cellsFrom (s.heap.objs.size + 1) scope.names []) (bindC (envOfC qual scope s.heap.objs.size f cd).kindOf (ps.zip us) fun _ => none) s1) :
    Inv (cxOf CX P w K mg base N qual scope f cd A outer s H E) [] (start N vs) H s1 := by
  have hpl : ps.length ≤ N.length := by have := congrArg List.length S.pre; rw [List.length_take] at this; omega
  obtain ⟨h1, tk, rfl, hk⟩ := x.done
  have noA : ∀ b : Addr, b ∉ (cxOf CX P w K mg base N qual scope f cd A outer s H E).ex := fun b z => absurd (show b ∈ ([] : List Addr) from z) (by simp)
  refine ⟨⟨e0.mod, S.kind, rfl, rfl, Nat.le_refl _, fun y z c h1 h2 => ?_, fun y hy => ?_, fun y c _ h => ?_, fun _ => hd, Around.frames_deeper e0.frames, .inr ⟨rfl, rfl⟩, fun b z => absurd z (noA b), e0.bs, e0.bsz, fun b _ _ => noA b, fun b z => absurd z (noA b), e0.funs, e0.frf⟩,
    rfl, e0.bare, Un.kept hk, ⟨_, x.toInCall.ns, fun i y v h1 h2 h3 => ?_⟩, fun y c h => ⟨_, x.cell y c h⟩, e0.hok.fresh (Nat.le_refl _), fun y c h => ?_, fun p hp => absurd (show p ∈ ([] : List (Addr × Obj)) from hp) (by simp), e0.hok.kept hk, ?_⟩
  · exact name_of_addr x.apart (PySem.mem_of_lookup h1) (PySem.mem_of_lookup h2)
  · have hy : scope.names.lookup y = some .cell ∨ scope.names.lookup y = some .free := hy
    rcases hy with hy | hy
    · exact cell_has hy
    · exact absurd rfl (S.nofree _ (PySem.mem_of_lookup hy))
  · exact Nat.le_of_lt (x.above y c (PySem.mem_of_lookup h))
  · have hi : i < vs.length := by
      unfold start at h2
      by_cases hi : i < vs.length
      · exact hi
      · rw [List.getElem?_append_right (by simpa using hi)] at h2
        rw [List.getElem?_replicate] at h2
        split at h2 <;> cases h2
    have ha : vs[i]? = some v := by
      unfold start at h2
      rw [List.getElem?_append_left (by simpa using hi), List.getElem?_map] at h2
      cases e : vs[i]? with
      | none => rw [e] at h2; cases h2
      | some a => rw [e] at h2; cases h2; rfl
    obtain ⟨u, hu, rv⟩ := r.get ha
    have hp : ps[i]? = some y := by
      rw [← S.pre, List.getElem?_take_of_lt (by omega)]; exact h1
    have ndP : ps.Nodup := by rw [← S.pre]; exact S.nd.sublist (List.take_sublist _ _)
    refine ⟨u, rv, ?_⟩
    rcases S.par y (List.mem_of_getElem? hp) with k | k
    · exact .inl ⟨k, bindL_get ndP hp hu k⟩
    · obtain ⟨c, e⟩ := cell_has (n := s.heap.objs.size + 1) k
      refine .inr ⟨.inl k, c, e, ?_⟩
      have q := x.cell y c e
      rw [bindC_get ndP hp hu (by show scope.names.lookup y ≠ _; rw [k]; decide)] at q
      exact q
  · exact e0.hok.fresh (Nat.le_of_lt (x.above y c (PySem.mem_of_lookup h)))
  · unfold start
    show _ = N.length
    rw [List.length_append, List.length_map, List.length_replicate]
    omega

theorem fn_of {CX : CXT} {P : Program} {w : World} {K : PySem.W.Frag} {mg : Str → Option Value} {base : Heap} {k : Nat} {f : Addr} {name qual : Str} {params : Arguments} {body : List Stmt} {scope : Scope} {dV kV doc pm cdv ct oc : Value} {an od : Option Addr}
    {osl : Array (Option Value)} {N ps : List Str} {sp : Sp} (lk : K.lookup f = some ⟨oc, od, .func (PySem.W.fnOf name qual params body scope dV kV doc pm an cdv ct), osl⟩) (hcd : PySem.W.codeIn K cdv qual = true) (S : FnScope N ps scope)
    (len : ∀ vs H Q E, sp vs H Q E → vs.length = ps.length)
    (hbody : ∀ (A : Around) (outer : List Env) (s : Shared) (H : Hp) (vs : List V) (Q : VK) (E : XK), Room k (A.deeper (envOfC qual scope s.heap.objs.size f cdv)) → sp vs H Q E →
      ∃ t, PSs (cxOf CX P w K mg base N qual scope f cdv A outer s H E) body t ∧ t { nx := fun _ H' => Q .non H', rt := Q } (start N vs) H) :
    FnOk P w K mg base CX (k + 1) f (PySem.W.fnOf name qual params body scope dV kV doc pm an cdv ct) ps sp := by
  refine ⟨len, fun A outer s H args us vs Q E hr e0 hb r hsp => ?_⟩
  have hl := len _ _ _ _ hsp
  have KX : K.In s.heap := e0.mod.kin.keeps fun b o e => (e0.bs b o e).1
  have lim : s.heap.NoLimit := e0.mod.nolimit.keeps fun b o e => (e0.bs b o e).1
  have hkind : ∀ y ∈ ps.zip us, scope.names.lookup y.1 = some .local ∨ (scope.names.lookup y.1 = some .cell ∧ ((cellsFrom (s.heap.objs.size + 1) scope.names []).lookup y.1).isSome = true) := fun ⟨n, v⟩ hy => by
    rcases S.par n (List.of_mem_zip hy).1 with q | q
    · exact .inl q
    · exact .inr ⟨q, PySem.W.cellsFrom_some _ _ _ (.inl q)⟩
  refine codeAny_call_function hr.depth (KX _ _ lk) rfl S.co S.gen rfl (PySem.W.codeRec_of KX hcd) (hb _ _ _ _ ?_)
  refine wpAny_newFunctionEnv_cells S.kind hkind fun env he s1 x => ?_
  subst he
  refine ⟨lim.keeps x.toInCall.keep, codeAny_func ?_⟩
  obtain ⟨t, ht, hq⟩ := hbody A outer s H vs Q E (hr.deeper _) hsp
  have I : Inv (cxOf CX P w K mg base N qual scope f cdv A outer s H E) [] (start N vs) H s1 := inv_start S hr.hd e0 hl r x
  refine wpAny_mono (ht [] s1 (start N vs) H _ I hq) (fun fl s' hs => ?_) fun e s' hs => hs
  have fin : ∀ {σ' : St} {H' : Hp} {v : V} {u : Value}, Inv (cxOf CX P w K mg base N qual scope f cdv A outer s H E) [] σ' H' s' → RelV v u → Q v H' → CE outer P w H s Q u s' :=
    fun {σ' H' v u} J rv q => ⟨v, H', J.os, J.bare, J.base, J.hok, rv, q⟩
  cases fl with
  | ret u =>
    obtain ⟨v, σ', H', J, rv, q⟩ := hs
    exact fin J rv q
  | next =>
    obtain ⟨σ', H', J, q⟩ := hs
    exact fin (v := V.non) (u := Value.none) J rfl q
  | brk =>
    obtain ⟨_, _, _, q⟩ := hs
    exact False.elim q
  | cont =>
    obtain ⟨_, _, _, q⟩ := hs
    exact False.elim q
end L2

namespace L2
open PySem PySem.Spec PyProof.Rows
section
variable {X : Cx} {x : Str} {p pos : Pos} {e : Expr} {es : List Expr} {t : TA} {id T : String} {r : List V → Hp → VK → Prop}

def tCB (r : List V → Hp → VK → Prop) (t : TA) : TE := fun σ H Q => t σ H fun vs H1 => r vs H1 Q
theorem pe_callB (hc : CallR X (.builtin id) r) (hg : Gl X x) (hm : X.mg x = none) (hv : bootBuiltins x = some (.builtin id)) (ha : PA X (e :: es) t) (hn : x ≠ "__name__" := by decide) (hdb : (x == ("__debug__" : Str)) = false := by decide)
    (he : starEach (e :: es) X.env = (false, eval e X.env) :: starEach es X.env := by rfl) (hpl : (backTo pos (starEach es X.env)).any (·.1) = false := by rfl) : PE X (.Call (.Name x p) (e :: es) [] pos) (tCB r t) := by
  intro pins s σ H Q I h
  refine wpAny_Call_Name_kw (ld_blt I hg hm hv ?_ hn hdb)
  exact PyProof.Rows.callWith_builtin1 (thn (ha pos pins s σ H _ I h) fun us s1 ⟨vs, H1, I1, r1, q1⟩ => hc pins s1 σ H1 vs us Q I1 r1 q1) he hpl
theorem pe_callTy (hc : CallR X (.type T) r) (hg : Gl X x) (hm : X.mg x = none) (hv : bootBuiltins x = some (.type T)) (ha : PA X (e :: es) t) (hn : x ≠ "__name__" := by decide) (hdb : (x == ("__debug__" : Str)) = false := by decide)
    (he : starEach (e :: es) X.env = (false, eval e X.env) :: starEach es X.env := by rfl) (hpl : (backTo pos (starEach es X.env)).any (·.1) = false := by rfl) : PE X (.Call (.Name x p) (e :: es) [] pos) (tCB r t) := by
  intro pins s σ H Q I h
  refine wpAny_Call_Name_kw (ld_blt I hg hm hv ?_ hn hdb)
  exact PyProof.Rows.callWith_type1 (thn (ha pos pins s σ H _ I h) fun us s1 ⟨vs, H1, I1, r1, q1⟩ => hc pins s1 σ H1 vs us Q I1 r1 q1) he hpl
end
end L2

namespace HT
open PySem PyProof.Rows

section
open PySem.SeqAt
open PySem.AutoSeq1 (wpAny_loadPart')
open PySem.MeetsSeq PySem.MeetsSeq2 PySem.MeetsSeq3

end

section
variable {prog : Program} {w : World} {A : Around} {E : Value → Shared → Prop} {s : Shared}

def sIx (n d : Nat) : Option Int → Nat
  | none => d
  | some v => if v < 0 then (v + (n : Int)).toNat else min v.toNat n
theorem sIx_none (n d : Nat) : sIx n d none = d := rfl
theorem sIx_nat (n d k : Nat) : sIx n d (some (k : Int)) = min k n := by
  show (if (k : Int) < 0 then ((k : Int) + (n : Int)).toNat else min (k : Int).toNat n) = min k n
  rw [if_neg (by omega), Int.toNat_natCast]
end
end HT

namespace L2
open PySem PySem.Spec PyProof.Rows

abbrev TO := St → Hp → (Option Int → Hp → Prop) → Prop
def PO (X : Cx) (e : Option Expr) (t : TO) : Prop :=
  ∀ (pins : List (Addr × Obj)) (s : Shared) (σ : St) (H : Hp) (Q : Option Int → Hp → Prop), Inv X pins σ H s → t σ H Q →
    wpAny (model X.prog X.w) X.A (evalPart e X.env) (fun u s' => ∃ o H', Inv X pins σ H' s' ∧ IsPart u o ∧ Q o H') X.xe s
def tNoPart : TO := fun _ H Q => Q none H
def tPart (t : TE) : TO := fun σ H Q => t σ H fun x H1 => ∃ i, x = .int i ∧ Q (some i) H1

section
variable {X : Cx} {e : Expr} {te : TE} {lo hi : Option Expr} {tl th : TO} {pos p2 : Pos}

theorem po_none : PO X none tNoPart := by
  intro pins s σ H Q I h
  rw [evalPart_none]
  exact wpAny_pure ⟨none, H, I, .none, h⟩
theorem po_some (h : PE X e te) : PO X (some e) (tPart te) := by
  intro pins s σ H Q I hw
  rw [evalPart_some]
  refine thn (h pins s σ H _ I hw) fun u s1 ⟨x, H1, I1, r1, q1⟩ => ?_
  obtain ⟨i, rfl, q⟩ := q1
  obtain ⟨t, rfl⟩ := r1
  exact ⟨some i, H1, I1, .int i t, q⟩

def SlR (X : Cx) (r : V → Option Int → Option Int → Hp → VK → Prop) : Prop :=
  ∀ (pins : List (Addr × Obj)) (s : Shared) (σ : St) (H : Hp) (x : V) (v vl vu : Value) (lo hi : Option Int) (sl : Addr) (Q : VK), Inv X pins σ H s → RelV x v → s.heap.IsSliceOf sl vl vu .none → IsPart vl lo → IsPart vu hi → r x lo hi H Q →
    ∃ T id, typeLookup (.type T) "__getitem__" = pure (some (.builtin id)) ∧ s.TypeIs v T ∧ wpAny (model X.prog X.w) X.A (getItem v (.ref sl)) (EP X pins σ Q) X.xe s
def tSl (r : V → Option Int → Option Int → Hp → VK → Prop) (te : TE) (tl th : TO) : TE := fun σ H Q => te σ H fun x H1 => tl σ H1 fun l H2 => th σ H2 fun u H3 => r x l u H3 Q
theorem pe_slice {r : V → Option Int → Option Int → Hp → VK → Prop} (hr : SlR X r) (he : PE X e te) (hl : PO X lo tl) (hu : PO X hi th) : PE X (.Subscript e (.Slice lo hi none p2) pos) (tSl r te tl th) := by
  intro pins s σ H Q I h
  refine Subscript_ (thn (he pins s σ H _ I h) fun v s1 ⟨x, H1, I1, r1, q1⟩ => ?_)
  refine wpAny_Slice (thn (hl pins s1 σ H1 _ I1 q1) fun vl s2 ⟨l, H2, I2, pl, q2⟩ => thn (hu pins s2 σ H2 _ I2 q2) fun vu s3 ⟨u, H3, I3, pu, q3⟩ => ?_)
  rw [evalPart_none]
  refine wpAny_pure ?_
  have I4 : Inv X pins σ H3 { s3 with heap := s3.heap.push { cls := .type "slice", data := .fields #[vl, vu, .none] } } := I3.kept (t' := s3.toks) fun b ob q => Heap.get?_push_of_some _ q
  obtain ⟨T, id, hT, ht, hg⟩ := hr pins { s3 with heap := s3.heap.push { cls := .type "slice", data := .fields #[vl, vu, .none] } } σ H3 x v vl vu l u s3.heap.objs.size Q I4 r1 (Heap.IsSliceOf.new ..) pl pu q3
  show wpAny (model X.prog X.w) X.A (subscriptTail e (.Slice lo hi none p2) v (.ref s3.heap.objs.size)) (EP X pins σ Q) X.xe { s3 with heap := s3.heap.push { cls := .type "slice", data := .fields #[vl, vu, .none] } }
  exact tail_any (ops := [.ref s3.heap.objs.size, v]) ht hT hg (by with_unfolding_all rfl)

def cutV (xs : List V) (lo hi : Option Int) : List V := (xs.drop (HT.sIx xs.length 0 lo)).take (HT.sIx xs.length xs.length hi - HT.sIx xs.length 0 lo)
theorem cutV_length (xs : List V) (lo hi : Option Int) : (cutV xs lo hi).length ≤ xs.length := by
  unfold cutV
  rw [List.length_take, List.length_drop]
  omega
end
end L2

namespace L2
open PySem PySem.Spec PyProof.Rows

def ixN (n : Nat) (i : Int) : Option Nat := if 0 ≤ i then (if i < n then some i.toNat else none) else if -(n : Int) ≤ i then some (i + n).toNat else none
def atI {α : Type} (xs : List α) (i : Int) : Option α := (ixN xs.length i).bind fun j => xs[j]?
theorem ixN_seq {n : Nat} {i : Int} {j : Nat} (h : ixN n i = some j) : seqIndex? i n = some j ∧ j < n ∧ -(n : Int) ≤ i ∧ i < n := by
  unfold ixN at h
  by_cases h0 : 0 ≤ i
  · rw [if_pos h0] at h
    by_cases h1 : i < n
    · rw [if_pos h1] at h
      have e : i.toNat = j := Option.some.inj h
      exact ⟨by rw [seqIndex_of h0 h1, e], by omega, by omega, h1⟩
    · rw [if_neg h1] at h; cases h
  · rw [if_neg h0] at h
    by_cases h1 : -(n : Int) ≤ i
    · rw [if_pos h1] at h
      have e : (i + n).toNat = j := Option.some.inj h
      exact ⟨by rw [seqIndex_neg (by omega) h1, e], by omega, h1, by omega⟩
    · rw [if_neg h1] at h; cases h
theorem atI_get {α : Type} {xs : List α} {i : Int} {v : α} (h : atI xs i = some v) : ∃ j, seqIndex? i xs.length = some j ∧ xs[j]? = some v ∧ j < xs.length ∧ -(xs.length : Int) ≤ i ∧ i < xs.length := by
  unfold atI at h
  cases e : ixN xs.length i with
  | none => rw [e] at h; cases h
  | some j =>
    rw [e] at h
    obtain ⟨h1, h2, h3, h4⟩ := ixN_seq e
    exact ⟨j, h1, h, h2, h3, h4⟩
theorem atI_nat {α : Type} {xs : List α} {j : Nat} {v : α} (h : xs[j]? = some v) : atI xs (j : Int) = some v := by
  have hj : j < xs.length := (List.getElem?_eq_some_iff.mp h).1
  have e : ixN xs.length (j : Int) = some j := by
    unfold ixN
    rw [if_pos (by omega), if_pos (by omega)]; simp
  unfold atI; rw [e]; exact h
def PlainIx (b : Expr) : Prop := ∀ o i, subscripted b false o i = operate [o, i] (getItem o i)
def IxR (X : Cx) (r : R2) : Prop :=
  ∀ (value slice : Expr) (pins : List (Addr × Obj)) (s : Shared) (σ : St) (H : Hp) (x y : V) (v u : Value) (Q : VK), Inv X pins σ H s → RelV x v → RelV y u → r x y H Q →
    subscripted slice false v u = operate [v, u] (getItem v u) → wpAny (model X.prog X.w) X.A (subscriptTail value slice v u) (EP X pins σ Q) X.xe s
def MtR (X : Cx) (id : String) (r : V → List V → Hp → VK → Prop) : Prop :=
  ∀ (pins : List (Addr × Obj)) (s : Shared) (σ : St) (H : Hp) (x : V) (xs : List V) (v : Value) (us : List Value) (Q : VK), Inv X pins σ H s → RelV x v → Vals xs us → r x xs H Q →
    wpAny (model X.prog X.w) X.A (call (.builtin id) (v :: us)) (EP X pins σ Q) X.xe s
section
variable {X : Cx} {a b : Expr} {ta tb : TE} {pos : Pos}
theorem pe_ix {r : R2} (hr : IxR X r) (ha : PE X a ta) (hb : PE X b tb) (hs : PlainIx b) : PE X (.Subscript a b pos) (tOp r ta tb) := by
  intro pins s σ H Q I h
  exact Subscript_ (binT ha hb I h fun v u s2 x y H2 I2 rx ry q => hr a b pins s2 σ H2 x y v u Q I2 rx ry q (hs _ _))

def rIxL (K : PySem.W.Frag) : R2 := fun x y H Q => ∃ p xs i v, x = .ref p ∧ y = .int i ∧ SqL K H p xs ∧ atI xs i = some v ∧ Q v H
def rIxT (K : PySem.W.Frag) : R2 := fun x y H Q => ∃ p xs i v, x = .ref p ∧ y = .int i ∧ SqT K H p xs ∧ atI xs i = some v ∧ Q v H
theorem ix_list : IxR X (rIxL X.K) := by
  intro value slice pins s σ H x y v u Q I rx ry h hs
  obtain ⟨p, xs, i, z, rfl, rfl, hq, he, q⟩ := h
  cases rx
  obtain ⟨t, rfl⟩ := ry
  obtain ⟨its, r, pl, hz⟩ := I.list hq
  obtain ⟨j, h1, h2, h3, h4, h5⟩ := atI_get he
  obtain ⟨w, ew, rw'⟩ := r.get h2
  have hl := r.length
  have hn := line63
  have fin : EP X pins σ Q w s := ⟨z, H, I, rw', q⟩
  by_cases h0 : 0 ≤ i
  · have hj : i.toNat = j := by
      rw [seqIndex_of h0 h5] at h1
      exact Option.some.inj h1
    exact item_listR pl.isList h0 (by omega) (by rw [hj]; simpa using ew) fin hs
  · have hj : (i + (its.toArray.size : Int)).toNat = j := by
      rw [seqIndex_neg (by omega) h4] at h1
      rw [List.size_toArray, ← hl]
      exact Option.some.inj h1
    exact subscriptTail_builtinR (x := w) pl.isList.typeIs slot_list_getitem.lookup
      (wpAny_getItem_list_neg (Q := fun r s' => r = w ∧ EP X pins σ Q r s') pl.isList (by omega) (by rw [List.size_toArray] <;> omega) (by omega) (by rw [hj]; simpa using ew) ⟨rfl, fin⟩) hs
theorem ix_tup : IxR X (rIxT X.K) := by
  intro value slice pins s σ H x y v u Q I rx ry h hs
  obtain ⟨p, xs, i, z, rfl, rfl, hq, he, q⟩ := h
  cases rx
  obtain ⟨t, rfl⟩ := ry
  obtain ⟨its, r, pl, hz⟩ := I.tuple hq
  obtain ⟨j, h1, h2, h3, h4, h5⟩ := atI_get he
  obtain ⟨w, ew, rw'⟩ := r.get h2
  have hl := r.length
  have hn := line63
  have fin : EP X pins σ Q w s := ⟨z, H, I, rw', q⟩
  exact subscriptTail_builtinR (x := w) pl.typeIs slot_tuple_getitem.lookup
    (getItem_tuple (j := j) (Q := fun r s' => r = w ∧ EP X pins σ Q r s') pl (by omega) (by omega) (by rw [List.size_toArray, ← hl]; exact h1) (by simpa using ew) ⟨rfl, fin⟩) hs
theorem mapSeq_set (its : List Value) (n j : Nat) (u : Value) : Obj.mapSeq (·.setIfInBounds j u) { cls := .type "list", data := .seq its.toArray n } = { cls := .type "list", data := .seq (its.set j u).toArray n } := by
  simp [Obj.mapSeq]
theorem Inv.lst {pins : List (Addr × Obj)} {σ : St} {H : Hp} {s : Shared} {p : Addr} {xs : List V} (I : Inv X pins σ H s) (h : H p = some (.lst xs)) :
    ∃ (its : List Value) (n : Nat), Vals xs its ∧ s.heap.get? p = some { cls := .type "list", data := .seq its.toArray n } ∧ xs.length ≤ sizeLine := by
  obtain ⟨z, its, n, r, e⟩ := I.hok p _ h
  exact ⟨its, n, r, e, z⟩
theorem Inv.lstUpd {pins : List (Addr × Obj)} {σ : St} {H : Hp} {s : Shared} {p : Addr} {xs ys : List V} {its its' : List Value} {n n' : Nat} {f : Obj → Obj} (I : Inv X pins σ H s) (h : H p = some (.lst xs))
    (ho : s.heap.get? p = some { cls := .type "list", data := .seq its.toArray n }) (hf : f { cls := .type "list", data := .seq its.toArray n } = { cls := .type "list", data := .seq its'.toArray n' }) (r : Vals ys its') (hz : ys.length ≤ sizeLine) (t : Nat) :
    Inv X pins σ (upd H p (.lst ys)) { s with heap := s.heap.update p f, toks := t } := by
  have e : (s.heap.update p f).get? p = some { cls := .type "list", data := .seq its'.toArray n' } := by
    rw [Heap.get?_update_self f ho (by rw [hf] <;> rfl), hf]
  refine I.write (x := p) (e := p) (by rw [h]; trivial) (.inl rfl) (fun b u hb q => (Heap.get?_update_other _ _ (Ne.symm hb)).trans q) ⟨_, e⟩ ?_
  exact ⟨hz, its', n', r, e⟩
def rSetL : V → V → V → Hp → (Hp → Prop) → Prop := fun o i v H Q => ∃ p xs k j, o = .ref p ∧ i = .int k ∧ H p = some (.lst xs) ∧ ixN xs.length k = some j ∧ Q (upd H p (.lst (xs.set j v)))
theorem set_list : PSet X rSetL := by
  intro pins s σ H o i v ov iv u Q I ro ri rv h
  obtain ⟨p, xs, k, j, rfl, rfl, hp, hj, q⟩ := h
  cases ro
  obtain ⟨t, rfl⟩ := ri
  obtain ⟨its, n, r, ho, hz⟩ := I.lst hp
  obtain ⟨h1, h2, h3, h4⟩ := ixN_seq hj
  have hl := r.length
  have hn := line63
  have I' : Inv X pins σ (upd H p (.lst (xs.set j v))) { s with heap := s.heap.update p (Obj.mapSeq (·.setIfInBounds j u)) } :=
    I.lstUpd hp ho (mapSeq_set its n j u) (r.set rv j) (by rw [List.length_set]; exact hz) s.toks
  by_cases h0 : 0 ≤ k
  · have hk : k.toNat = j := by
      rw [seqIndex_of h0 h4] at h1
      exact Option.some.inj h1
    exact PySem.W.ki_setAt ho h0 (by omega) (by rw [List.size_toArray, ← hl]; exact h4) (by rw [hk]; exact ⟨_, I', q⟩)
  · have hk : (k + (its.toArray.size : Int)).toNat = j := by
      rw [seqIndex_neg (by omega) h3] at h1
      rw [List.size_toArray, ← hl]
      exact Option.some.inj h1
    exact PySem.W.ki_setBack ho (by omega) (by rw [List.size_toArray, ← hl]; exact h3) (by omega) (by rw [hk]; exact ⟨_, I', q⟩)

theorem slice_bounds (lo hi : Option Int) (n : Nat) : (sliceBounds lo hi none n).1 = ((HT.sIx n 0 lo : Nat) : Int) ∧ (sliceBounds lo hi none n).2.1 = ((HT.sIx n n hi : Nat) : Int) ∧ (sliceBounds lo hi none n).2.2 = 1 := by
  refine ⟨?_, ?_, rfl⟩
  · cases lo with
    | none => simp [sliceBounds, HT.sIx]
    | some i =>
      simp only [sliceBounds, HT.sIx, Option.getD_none, show (1 : Int) > 0 by decide, if_true]
      by_cases h : i < 0
      · simp only [h, if_true] <;> omega
      · simp only [h, if_false] <;> omega
  · cases hi with
    | none => simp [sliceBounds, HT.sIx]
    | some i =>
      simp only [sliceBounds, HT.sIx, Option.getD_none, show (1 : Int) > 0 by decide, if_true]
      by_cases h : i < 0
      · simp only [h, if_true] <;> omega
      · simp only [h, if_false] <;> omega
theorem slicePick_cut (its : List Value) (lo hi : Option Int) : slicePick its.toArray lo hi none = ((its.drop (HT.sIx its.length 0 lo)).take (HT.sIx its.length its.length hi - HT.sIx its.length 0 lo)).toArray := by
  obtain ⟨h1, h2, h3⟩ := slice_bounds lo hi its.toArray.size
  unfold slicePick
  rw [h1, h2, h3]
  simp only [sliceRange_one, pick_run, List.size_toArray] <;> rfl
def rSlL (K : PySem.W.Frag) : V → Option Int → Option Int → Hp → VK → Prop := fun x lo hi H Q => ∃ a xs, x = .ref a ∧ SqL K H a xs ∧ ∀ p, H p = none → Q (.ref p) (upd H p (.lst (cutV xs lo hi)))
theorem sl_list : SlR X (rSlL X.K) := by
  intro pins s σ H x v vl vu lo hi sl Q I rx hs pl pu h
  obtain ⟨a, xs, rfl, hx, q⟩ := h
  cases rx
  obtain ⟨its, r, ht, hz⟩ := I.list hx
  have hlen := r.length
  refine ⟨"list", _, slot_list_getitem.lookup, ht.isList.typeIs, ?_⟩
  refine wpAny_getItem_list_slice ht.isList hs pl pu .none (by simp) ?_ (by rw [List.size_toArray] <;> omega)
  rw [slicePick_cut, ← hlen]
  refine ⟨.ref s.heap.objs.size, _, I.laid (t' := s.toks) (o := .lst (cutV xs lo hi)) (fun b ob q => Heap.get?_push_of_some _ q) (Nat.le_refl _) ?_, rfl, q _ (I.hok.fresh (Nat.le_refl _))⟩
  exact ⟨Nat.le_trans (cutV_length xs lo hi) hz, _, 0, (r.drop (HT.sIx xs.length 0 lo)).take (HT.sIx xs.length xs.length hi - HT.sIx xs.length 0 lo), Heap.get?_push_size _ rfl⟩

def flatV : V → Bool
  | .non => true
  | .bl _ => true
  | .int _ => true
  | .str _ => true
  | _ => false
def eqV : V → V → Bool
  | .non, .non => true
  | .bl a, .bl b => a == b
  | .bl a, .int b => (if a then 1 else 0) == b
  | .int a, .bl b => a == (if b then 1 else 0)
  | .int a, .int b => a == b
  | .str a, .str b => a == b
  | _, _ => false
theorem eqAt_V {A : Around} {s : Shared} {y x : V} {u v : Value} (ry : RelV y u) (rx : RelV x v) (fy : flatV y = true) (fx : flatV x = true) : SeqAt.EqAt A s u v (eqV y x) := by
  cases y with
  | non =>
    cases ry
    cases x with
    | non => cases rx; exact SeqAt.EqAt.same _
    | bl b => cases rx; exact SeqAt.EqAt.none_bool b
    | int b => obtain ⟨t, rfl⟩ := rx; exact SeqAt.EqAt.none_int b t
    | str b => obtain ⟨t, rfl⟩ := rx; exact SeqAt.EqAt.none_str b t
    | _ => exact absurd (show false = true from fx) Bool.false_ne_true
  | bl a =>
    cases ry
    cases x with
    | non => cases rx; exact SeqAt.EqAt.bool_none a
    | bl b => cases rx; exact SeqAt.EqAt.bool_bool a b
    | int b => obtain ⟨t, rfl⟩ := rx; exact SeqAt.EqAt.bool_int a b t
    | str b => obtain ⟨t, rfl⟩ := rx; exact SeqAt.EqAt.bool_str a b t
    | _ => exact absurd (show false = true from fx) Bool.false_ne_true
  | int a =>
    obtain ⟨t', rfl⟩ := ry
    cases x with
    | non => cases rx; exact SeqAt.EqAt.int_none a t'
    | bl b => cases rx; exact SeqAt.EqAt.int_bool a t' b
    | int b => obtain ⟨t, rfl⟩ := rx; exact SeqAt.EqAt.int_int a t' b t
    | str b => obtain ⟨t, rfl⟩ := rx; exact SeqAt.EqAt.int_str a t' b t
    | _ => exact absurd (show false = true from fx) Bool.false_ne_true
  | str a =>
    obtain ⟨t', rfl⟩ := ry
    cases x with
    | non => cases rx; exact SeqAt.EqAt.str_none a t'
    | bl b => cases rx; exact SeqAt.EqAt.str_bool a t' b
    | int b => obtain ⟨t, rfl⟩ := rx; exact SeqAt.EqAt.str_int a t' b t
    | str b => obtain ⟨t, rfl⟩ := rx; exact SeqAt.EqAt.str_str a t' b t
    | _ => exact absurd (show false = true from fx) Bool.false_ne_true
  | _ => exact absurd (show false = true from fy) Bool.false_ne_true
def eqU (x : V) (u : Value) : Bool := match u with
  | .none => eqV .non x
  | .bool b => eqV (.bl b) x
  | .int i _ => eqV (.int i) x
  | .str z _ => eqV (.str z) x
  | _ => false
theorem eqU_of {x y : V} {u : Value} (r : RelV y u) (f : flatV y = true) : eqU x u = eqV y x := by
  cases y with
  | non => cases r; rfl
  | bl b => cases r; rfl
  | int i => obtain ⟨t, rfl⟩ := r; rfl
  | str z => obtain ⟨t, rfl⟩ := r; rfl
  | _ => exact absurd (show false = true from f) Bool.false_ne_true
theorem any_eqU {x : V} : ∀ {xs : List V} {us : List Value}, Vals xs us → xs.all flatV = true → us.any (eqU x) = xs.any fun y => eqV y x
  | _, _, .nil, _ => rfl
  | y :: xs, u :: us, .cons r t, f => by
    rw [List.all_cons, Bool.and_eq_true] at f
    rw [List.any_cons, List.any_cons, eqU_of r f.1, any_eqU t f.2]
theorem mem_eqAt {A : Around} {s : Shared} {x : V} {v : Value} (rx : RelV x v) (fx : flatV x = true) : ∀ {xs : List V} {us : List Value}, Vals xs us → xs.all flatV = true → ∀ u ∈ us, SeqAt.EqAt A s u v (eqU x u)
  | _, _, .nil, _ => fun u hu => by cases hu
  | y :: xs, u :: us, .cons r t, f => fun u' hu => by
    rw [List.all_cons, Bool.and_eq_true] at f
    rcases List.mem_cons.mp hu with rfl | hu
    · rw [eqU_of r f.1]; exact eqAt_V r rx f.1 fx
    · exact mem_eqAt rx fx t f.2 u' hu
def inV (x : V) (xs : List V) : Bool := xs.any fun y => eqV y x
def rIn (K : PySem.W.Frag) (neg : Bool) : R2 := fun x y H Q => ∃ p xs, y = .ref p ∧ (SqL K H p xs ∨ SqT K H p xs) ∧ flatV x = true ∧ xs.all flatV = true ∧ Q (.bl (if neg then !inV x xs else inV x xs)) H
theorem op_notIn_seq : OpR X (compareOp .NotIn) (rIn X.K true) := by
  intro pins s σ H x y v u Q I rx ry h
  obtain ⟨p, xs, rfl, hq, fx, fs, q⟩ := h
  cases ry
  rcases hq with hq | hq
  · obtain ⟨its, r, pl, hz⟩ := I.list hq
    refine SeqAt.notIn_listAt (eqU x) pl.isList (fun w hw => mem_eqAt rx fx r fs w (by simpa using hw)) ⟨.bl _, H, I, rfl, ?_⟩
    rw [show its.toArray.any (eqU x) = its.any (eqU x) by simp, any_eqU r fs]
    exact q
  · obtain ⟨its, r, pl, hz⟩ := I.tuple hq
    refine SeqAt.notIn_tupleAt (eqU x) pl (fun w hw => mem_eqAt rx fx r fs w (by simpa using hw)) ⟨.bl _, H, I, rfl, ?_⟩
    rw [show its.toArray.any (eqU x) = its.any (eqU x) by simp, any_eqU r fs]
    exact q
theorem call_len_seq : CallR X (.builtin "len") (fun xs H Q => ∃ p ys, xs = [.ref p] ∧ (SqL X.K H p ys ∨ SqT X.K H p ys) ∧ Q (.int ys.length) H) := by
  intro pins s σ H xs us Q I r h
  obtain ⟨p, ys, rfl, hq, q⟩ := h
  obtain ⟨u, rfl, rx⟩ := vals1 r
  cases rx
  have hn := line63
  rcases hq with hq | hq
  · obtain ⟨its, r', pl, hz⟩ := I.list hq
    have hlen := r'.length
    exact Calls.call_len_list pl.isList (by simp only [List.size_toArray] <;> omega) ⟨.int ys.length, H, I.tok _, ⟨s.toks + 1, by rw [List.size_toArray, hlen]⟩, q⟩
  · obtain ⟨its, r', pl, hz⟩ := I.tuple hq
    have hlen := r'.length
    exact len_tuple pl (by simp only [List.size_toArray] <;> omega) ⟨.int ys.length, H, I.tok _, ⟨s.toks + 1, by rw [List.size_toArray, hlen]⟩, q⟩
theorem call_list_of : CallR X (.type "list") (fun xs H Q => ∃ p ys, xs = [.ref p] ∧ (SqL X.K H p ys ∨ SqT X.K H p ys) ∧ ∀ l, H l = none → Q (.ref l) (upd H l (.lst ys))) := by
  intro pins s σ H xs us Q I r h
  obtain ⟨p, ys, rfl, hq, q⟩ := h
  obtain ⟨u, rfl, rx⟩ := vals1 r
  cases rx
  have fin : ∀ (its : List Value), Vals ys its → ys.length ≤ sizeLine → ∀ (h' : Heap) (c' : Nat), (∀ b o', s.heap.get? b = some o' → h'.get? b = some o') →
      h'.get? s.heap.objs.size = some { cls := .type "list", dict := none, data := .seq its.toArray c', slots := #[] } → EP X pins σ Q (.ref s.heap.objs.size) { s with heap := h' } := fun its r' hz h' c' kp e =>
    ⟨.ref s.heap.objs.size, _, I.laid (t' := s.toks) kp (Nat.le_refl _) (show ObjOk X.prog X.w _ h' _ (.lst ys) from ⟨hz, its, c', r', e⟩), rfl, q _ (I.hok.fresh (Nat.le_refl _))⟩
  rcases hq with hq | hq
  · obtain ⟨its, r', pl, hz⟩ := I.list hq
    have hlen := r'.length
    obtain ⟨o, ho, hc, n, hd⟩ := pl.isList
    exact call_list_seq p (.inl rfl) ho hc hd (fun h' c' kp e => fin its r' hz h' c' kp e) (by simp only [List.size_toArray] <;> omega)
  · obtain ⟨its, r', pl, hz⟩ := I.tuple hq
    have hlen := r'.length
    obtain ⟨o, ho, hc, n, hd⟩ := pl
    exact call_list_seq p (.inr rfl) ho hc hd (fun h' c' kp e => fin its r' hz h' c' kp e) (by simp only [List.size_toArray] <;> omega)
def tyV (K : PySem.W.Frag) (T : String) (x : V) (H : Hp) : Prop := match x with
  | .str _ => T = "str"
  | .int _ => T = "int"
  | .ref p => (T = "list" ∧ ∃ xs, SqL K H p xs) ∨ (T = "tuple" ∧ ∃ o, K.lookup p = some o ∧ o.cls = .type "tuple" ∧ o.dict = none) ∨
      (T = "dict" ∧ ((∃ kvs, H p = some (.dK kvs)) ∨ ∃ kvs, H p = some (.dT kvs))) ∨ (T = "set" ∧ ∃ S n, H p = some (.set S n))
  | _ => False
theorem tyV_is {pins : List (Addr × Obj)} {σ : St} {H : Hp} {s : Shared} {T : String} {x : V} {v : Value} (I : Inv X pins σ H s) (r : RelV x v) (ty : tyV X.K T x H) :
    s.TypeIs v T ∧ ∀ a, v = .ref a → ∃ ob, s.heap.get? a = some ob ∧ ob.dict = none := by
  cases x with
  | str z =>
    obtain ⟨t, rfl⟩ := r
    cases (show T = "str" from ty)
    exact ⟨typeIs_str s z t, fun _ e => nomatch e⟩
  | int i =>
    obtain ⟨t, rfl⟩ := r
    cases (show T = "int" from ty)
    exact ⟨typeIs_int s i t, fun _ e => nomatch e⟩
  | ref p =>
    cases r
    rcases ty with ⟨rfl, xs, hq⟩ | ⟨rfl, o, hk, hc, hd⟩ | ⟨rfl, hk⟩ | ⟨rfl, S, n, hk⟩
    · obtain ⟨its, _, pl, _⟩ := I.list hq
      refine ⟨pl.isList.typeIs, fun a e => ?_⟩
      cases e
      obtain ⟨o, n, e, c, hd, _⟩ := pl
      exact ⟨o, e, hd⟩
    · refine ⟨⟨o, I.kIn p o hk, hc⟩, fun a e => ?_⟩
      cases e
      exact ⟨o, I.kIn _ o hk, hd⟩
    · have z : ∃ o, s.heap.get? p = some o ∧ o.ExactDict := by
        rcases hk with ⟨kvs, hk⟩ | ⟨kvs, hk⟩
        · obtain ⟨_, _, _, _, o, _, _, e, ex, _⟩ := I.hok p _ hk
          exact ⟨o, e, ex⟩
        · obtain ⟨_, _, _, _, o, _, _, e, ex, _⟩ := I.hok p _ hk
          exact ⟨o, e, ex⟩
      obtain ⟨o, e, ex⟩ := z
      refine ⟨⟨o, e, ex.1⟩, fun a e2 => ?_⟩
      cases e2
      exact ⟨o, e, ex.2.1⟩
    · obtain ⟨o, _, _, _, e, ex, _⟩ := I.hok p _ hk
      refine ⟨⟨o, e, ex.1⟩, fun a e2 => ?_⟩
      cases e2
      exact ⟨o, e, ex.2.1⟩
  | _ => exact False.elim ty
def tBM0 (K : PySem.W.Frag) (T : String) (r : V → List V → Hp → VK → Prop) (to : TE) : TE := fun σ H Q => to σ H fun x H1 => tyV K T x H1 ∧ r x [] H1 Q
def tBM (K : PySem.W.Frag) (T : String) (r : V → List V → Hp → VK → Prop) (to : TE) (t : TA) : TE := fun σ H Q => to σ H fun x H1 => tyV K T x H1 ∧ t σ H1 fun xs H2 => r x xs H2 Q
variable {o e : Expr} {es : List Expr} {to : TE} {t : TA} {name : Str} {apos cpos : Pos} {T id : String} {r : V → List V → Hp → VK → Prop}
theorem pe_bm0 (pa : PlainAttrs T) (slot : Slot T name id) (hty : typeOf (.builtin id) = pure (.type "method_descriptor")) (hm : MtR X id r) (ho : PE X o to)
    (hbase : attributeBase o name X.env (eval o X.env) = eval o X.env := by rfl) (hline : (apos.endLine == cpos.line) = true := by rfl) : PE X (.Call (.Attribute o name apos) [] [] cpos) (tBM0 X.K T r to) := by
  intro pins s σ H Q I h
  refine wpAny_Call_method0_late hbase hline (thn (ho pins s σ H _ I h) fun v s1 ⟨x, H1, I1, r1, ty, q1⟩ => ?_)
  obtain ⟨h1, h2⟩ := tyV_is I1 r1 ty
  exact ⟨T, id, pa, slot, hty, h1, h2, Calls.callWith_builtin rfl (PySem.evalArgs_none (hm pins s1 σ H1 x [] v [] Q I1 r1 .nil q1))⟩
theorem pe_bm (pa : PlainAttrs T) (slot : Slot T name id) (hty : typeOf (.builtin id) = pure (.type "method_descriptor")) (hm : MtR X id r) (ho : PE X o to) (ha : PA X (e :: es) t)
    (hbase : attributeBase o name X.env (eval o X.env) = eval o X.env := by rfl)
    (hfew : ((backTo cpos (starEach (e :: es) X.env)).all (fun x => !x.1) && (backToKw cpos (keywordEach [] X.env)).all (fun x => x.1.isSome)
      && decide ((e :: es).length + ([] : List Keyword).length + (if ([] : List Keyword).isEmpty then 0 else 1) < 30)) = true := by rfl)
    (hline : (apos.endLine == cpos.line) = true := by rfl) (hs : starEach (e :: es) X.env = (false, eval e X.env) :: starEach es X.env := by rfl) (hplain : (backTo cpos (starEach es X.env)).any (·.1) = false := by rfl) :
    PE X (.Call (.Attribute o name apos) (e :: es) [] cpos) (tBM X.K T r to t) := by
  intro pins s σ H Q I h
  refine wpAny_Call_method_late hbase hfew hline rfl (thn (ho pins s σ H _ I h) fun v s1 ⟨x, H1, I1, r1, ty, q1⟩ => ?_)
  obtain ⟨h1, h2⟩ := tyV_is I1 r1 ty
  refine ⟨T, id, pa, slot, hty, h1, h2, ?_⟩
  have hA := ha cpos pins s1 σ H1 _ I1 q1
  rw [hs] at hA ⊢
  refine Calls.callWith_builtin (by show (false || (backTo cpos (starEach es X.env)).any (·.1)) = false; rw [hplain] <;> rfl) (Calls.evalArgs_plain ?_)
  exact thn hA fun us s2 ⟨vs, H2, I2, r2, q2⟩ => hm pins s2 σ H2 x vs v us Q I2 r1 r2 q2
end
end L2

namespace L2
open PySem PySem.Spec PyProof.Rows

def MtM (X : Cx) (id : String) (r : V → List V → Hp → VK → Prop) : Prop :=
  ∀ (pins : List (Addr × Obj)) (s : Shared) (σ : St) (H : Hp) (x : V) (xs : List V) (v : Value) (us : List Value) (Q : VK), Inv X pins σ H s → RelV x v → Vals xs us → r x xs H Q →
    wpAny (model X.prog X.w) X.A (call (.builtin id) (v :: us)) (EP X pins σ Q) X.xe s

theorem Vals.one : ∀ {x : V} {us : List Value}, Vals [x] us → ∃ u, us = [u] ∧ RelV x u
  | _, _, .cons r .nil => ⟨_, rfl, r⟩
theorem Vals.two : ∀ {x y : V} {us : List Value}, Vals [x, y] us → ∃ u v, us = [u, v] ∧ RelV x u ∧ RelV y v
  | _, _, _, .cons r (.cons q .nil) => ⟨_, _, rfl, r, q⟩
theorem Vals.zero : ∀ {us : List Value}, Vals [] us → us = []
  | _, .nil => rfl
theorem Vals.eraseIdx : ∀ {xs : List V} {us : List Value} (i : Nat), Vals xs us → Vals (xs.eraseIdx i) (us.eraseIdx i)
  | _, _, _, .nil => .nil
  | _, _, 0, .cons _ t => t
  | _, _, i + 1, .cons r t => .cons r (Vals.eraseIdx i t)
theorem Vals.reverse {xs : List V} {us : List Value} (h : Vals xs us) : Vals xs.reverse us.reverse := by
  induction h with
  | nil => exact .nil
  | cons r t ih => rw [List.reverse_cons, List.reverse_cons]; exact Vals.append ih (.cons r .nil)
theorem Vals.rep {xs : List V} {us : List Value} (h : Vals xs us) : ∀ k : Nat, Vals (List.replicate k xs).flatten (List.replicate k us).flatten
  | 0 => .nil
  | k + 1 => by
    rw [List.replicate_succ, List.replicate_succ, List.flatten_cons, List.flatten_cons]
    exact Vals.append h (Vals.rep h k)
theorem len_erase {α : Type} : ∀ (l : List α) (i : Nat), (l.eraseIdx i).length ≤ l.length
  | [], _ => Nat.le_refl _
  | _ :: _, 0 => Nat.le_succ _
  | _ :: r, i + 1 => Nat.succ_le_succ (len_erase r i)
theorem foldl_rep (its : List Value) : ∀ (k : Nat) (acc : List Value),
    List.foldl (fun x1 x2 => x1 ++ x2) acc.toArray (List.replicate k its.toArray) = (acc ++ (List.replicate k its).flatten).toArray
  | 0, acc => by simp
  | k + 1, acc => by
    have e : acc.toArray ++ its.toArray = (acc ++ its).toArray := by simp
    have e2 : (acc ++ its) ++ (List.replicate k its).flatten = acc ++ (List.replicate (k + 1) its).flatten := by
      rw [List.replicate_succ, List.flatten_cons, List.append_assoc]
    rw [← e2, ← foldl_rep its k (acc ++ its), ← e, List.replicate_succ, List.foldl_cons]

section
variable {X : Cx} {pins : List (Addr × Obj)} {σ : St} {H : Hp} {s : Shared} {l b : Addr} {xs ys zs : List V}

theorem Inv.lset {its its' : List Value} {n : Nat} {f : Array Value → Array Value} {t' : Nat} (I : Inv X pins σ H s) (hH : H l = some (.lst xs))
    (e : s.heap.get? l = some { cls := .type "list", data := .seq its.toArray n }) (hf : f its.toArray = its'.toArray) (hv : Vals ys its') (hz : ys.length ≤ sizeLine) :
    Inv X pins σ (upd H l (.lst ys)) { s with heap := s.heap.update l (Obj.mapSeq f), toks := t' } := by
  have q := PySem.IsL.update e f
  rw [hf] at q
  refine I.write (x := l) (e := l) (by rw [hH]; exact trivial) (.inl rfl) (fun b' u hb hu => (Heap.get?_update_other s.heap (Obj.mapSeq f) (Ne.symm hb)).trans hu) ⟨_, q⟩ ?_
  exact ⟨hz, its', _, hv, q⟩
theorem Inv.lnew {its : List Value} {t' : Nat} (I : Inv X pins σ H s) (hv : Vals ys its) (hz : ys.length ≤ sizeLine) :
    Inv X pins σ (upd H s.heap.objs.size (.lst ys)) { s with heap := s.heap.push { cls := .type "list", data := .seq its.toArray }, toks := t' } :=
  I.laid (fun _ _ q => Heap.get?_push_of_some _ q) (Nat.le_refl _) ⟨hz, its, 0, hv, Heap.get?_push_size _ rfl⟩
theorem Inv.fresh (I : Inv X pins σ H s) : H s.heap.objs.size = none := I.hok.fresh (Nat.le_refl _)
theorem Inv.lstM (I : Inv X pins σ H s) (hH : H l = some (.lst xs)) : xs.length ≤ sizeLine ∧ ∃ (its : List Value) (n : Nat), Vals xs its ∧ xs.length = its.length ∧ s.heap.get? l = some { cls := .type "list", data := .seq its.toArray n } := by
  obtain ⟨z, its, n, r, e⟩ := I.hok l _ hH
  exact ⟨z, its, n, r, r.length, e⟩

theorem notLongL {n : Nat} (h : n ≤ sizeLine) : Builtin.List.listTooLong n = false := by
  unfold Builtin.List.listTooLong
  exact decide_eq_false (by omega)
end

section
variable {X : Cx}

def rAppend : V → List V → Hp → VK → Prop := fun x vs H Q => ∃ l xs y, x = .ref l ∧ vs = [y] ∧ H l = some (.lst xs) ∧ xs.length < sizeLine ∧ Q .non (upd H l (.lst (xs ++ [y])))
theorem mt_append : MtM X "list.append" rAppend := by
  intro pins s σ H x vs v us Q I rx rv h
  obtain ⟨l, xs, y, rfl, rfl, hH, hz, q⟩ := h
  cases rx
  obtain ⟨u, rfl, ru⟩ := rv.one
  obtain ⟨z, its, n, r, hl, e⟩ := I.lstM hH
  refine call_meets F.slot_list_append ⟨_, e, rfl⟩ F.entry_list_append (F.args_list_append_2 _ _) (PySem.list_append l its.toArray n u (by rw [List.size_toArray]; omega)) ⟨e, ?_⟩
  refine ⟨.non, _, I.lset (its' := its ++ [u]) hH e (by simp) (r.append (.cons ru .nil)) ?_, rfl, q⟩
  rw [List.length_append, List.length_singleton]
  omega

def rExtend : V → List V → Hp → VK → Prop := fun x vs H Q => ∃ l b xs zs, x = .ref l ∧ vs = [.ref b] ∧ H l = some (.lst xs) ∧ H b = some (.lst zs) ∧ xs.length + zs.length ≤ sizeLine ∧ Q .non (upd H l (.lst (xs ++ zs)))
theorem mt_extend : MtM X "list.extend" rExtend := by
  intro pins s σ H x vs v us Q I rx rv h
  obtain ⟨l, b, xs, zs, rfl, rfl, hH, hB, hz, q⟩ := h
  cases rx
  obtain ⟨u, rfl, ru⟩ := rv.one
  cases ru
  obtain ⟨z, its, n, r, hl, e⟩ := I.lstM hH
  obtain ⟨z2, its2, n2, r2, hl2, e2⟩ := I.lstM hB
  have hsz : its.toArray.size + its2.toArray.size ≤ sizeLine := by rw [List.size_toArray, List.size_toArray]; omega
  have hlong : ¬ (!its.toArray.isEmpty && Builtin.List.listTooLong (its.toArray.size + its2.toArray.size)) = true := by
    rw [notLongL hsz, Bool.and_false]
    exact Bool.false_ne_true
  refine call_meets F.slot_list_extend ⟨_, e, rfl⟩ F.entry_list_extend (F.args_list_extend_2 _ _)
    (AutoSeq1.list_extend_list_list_0 l its.toArray n b its2.toArray n2 hlong (by rw [List.size_toArray]; omega) (by omega)) ⟨e, e2, ?_⟩
  refine ⟨.non, _, I.lset (its' := its ++ its2) hH e (by simp) (r.append r2) ?_, rfl, q⟩
  rw [List.length_append]
  omega

def rPopAt : V → List V → Hp → VK → Prop := fun x vs H Q => ∃ l xs i k y, x = .ref l ∧ vs = [.int i] ∧ H l = some (.lst xs) ∧ -(2 ^ 63) ≤ i ∧ i < 2 ^ 63 ∧ seqIndex? i xs.length = some k ∧ xs[k]? = some y ∧ Q y (upd H l (.lst (xs.eraseIdx k)))
theorem mt_popAt : MtM X "list.pop" rPopAt := by
  intro pins s σ H x vs v us Q I rx rv h
  obtain ⟨l, xs, i, k, y, rfl, rfl, hH, h1, h2, hk, hy, q⟩ := h
  cases rx
  obtain ⟨u, rfl, ru⟩ := rv.one
  obtain ⟨t, rfl⟩ := ru
  obtain ⟨z, its, n, r, hl, e⟩ := I.lstM hH
  obtain ⟨w, hw, rw'⟩ := r.get hy
  refine call_meets F.slot_list_pop ⟨_, e, rfl⟩ F.entry_list_pop (F.args_list_pop_2 _ _)
    (MeetsSeq.list_pop_at l its.toArray n i t k w (fitsIndex_both h1 h2) (by rw [List.size_toArray, ← hl]; exact hk) (by rw [← Array.getElem?_toList]; exact hw) (by rw [List.size_toArray]; omega)) ⟨e, ?_⟩
  refine ⟨y, _, I.lset (its' := its.eraseIdx k) hH e ?_ (r.eraseIdx k) ?_, rw', q⟩
  · show its.toArray.eraseIdxIfInBounds k = (its.eraseIdx k).toArray
    rw [List.eraseIdxIfInBounds_toArray]
  · have := len_erase xs k
    omega

def rCat : R2 := fun x y H Q => ∃ l b xs zs, x = .ref l ∧ y = .ref b ∧ H l = some (.lst xs) ∧ H b = some (.lst zs) ∧ xs.length + zs.length ≤ sizeLine ∧ ∀ p, H p = none → Q (.ref p) (upd H p (.lst (xs ++ zs)))
theorem op_cat : OpR X (binaryOp .Add) rCat := by
  intro pins s σ H x y v u Q I rx ry h
  obtain ⟨l, b, xs, zs, rfl, rfl, hH, hB, hz, q⟩ := h
  cases rx
  cases ry
  obtain ⟨z, its, n, r, hl, e⟩ := I.lstM hH
  obtain ⟨z2, its2, n2, r2, hl2, e2⟩ := I.lstM hB
  refine PySem.P.add_list e e2 ?_ (by rw [List.size_toArray, List.size_toArray]; omega)
  have ea : its.toArray ++ its2.toArray = (its ++ its2).toArray := by simp
  rw [ea]
  exact ⟨.ref _, _, I.lnew (t' := s.toks) (r.append r2) (by rw [List.length_append]; omega), rfl, q _ I.fresh⟩
def rRep : R2 := fun x y H Q => ∃ l k xs, x = .ref l ∧ y = .int k ∧ H l = some (.lst xs) ∧ -(2 ^ 63) ≤ k ∧ k < 2 ^ 63 ∧ xs.length * k.toNat ≤ sizeLine ∧
  ∀ p, H p = none → Q (.ref p) (upd H p (.lst (List.replicate k.toNat xs).flatten))
theorem len_rep {α : Type} (xs : List α) (k : Nat) : (List.replicate k xs).flatten.length = k * xs.length := by
  induction k with
  | zero => simp
  | succ k ih => rw [List.replicate_succ, List.flatten_cons, List.length_append, ih, Nat.succ_mul, Nat.add_comm]
theorem op_rep : OpR X (binaryOp .Mult) rRep := by
  intro pins s σ H x y v u Q I rx ry h
  obtain ⟨l, k, xs, rfl, rfl, hH, h1, h2, hz, q⟩ := h
  cases rx
  obtain ⟨t, rfl⟩ := ry
  obtain ⟨z, its, n, r, hl, e⟩ := I.lstM hH
  have hlen : its.toArray.size * k.toNat ≤ sizeLine := by rw [List.size_toArray, ← hl]; exact hz
  have hcap : ¬ its.toArray.size * k.toNat > (2 ^ 63 - 1) / 8 := by
    have : (sizeLine : Nat) ≤ (2 ^ 63 - 1) / 8 := by decide
    omega
  have hfit : ¬ (!Builtin.List.listFitsIndex k) = true := by
    rw [fitsIndex_both h1 h2]
    exact Bool.false_ne_true
  have hlong : ¬ Builtin.List.listTooLong (its.toArray.size * k.toNat) = true := by
    rw [notLongL hlen]
    exact Bool.false_ne_true
  have hnew : List.foldl (fun x1 x2 => x1 ++ x2) #[] (List.replicate (if its.toArray.isEmpty = true then 0 else k.toNat) its.toArray) = (List.replicate k.toNat its).flatten.toArray := by
    have f0 : ∀ m : Nat, List.foldl (fun x1 x2 => x1 ++ x2) #[] (List.replicate m its.toArray) = (List.replicate m its).flatten.toArray := fun m => by
      have := foldl_rep its m []
      rw [List.nil_append] at this
      exact this
    rw [f0]
    cases its with
    | nil => simp
    | cons a r' => rw [if_neg (by simp)]
  refine wpAny_binaryOp_repeat_ref (T := "list") (U := "int") (by decide) ⟨_, e, rfl⟩ (fun s' => typeIs_int s' k t) noFill_list_mul F.fills_int_mul F.slot_int_rmul repeat_list F.slot_int_index.lookup
    (call_meets F.slot_int_rmul (typeIs_int s k t) F.entry_int_rmul (F.args_int_rmul_2 _ _) (int___rmul___int_list k t l its.toArray n)
      ⟨e, rfl, ⟨_, e, rfl⟩, call_meets F.slot_list_mul ⟨_, e, rfl⟩ F.entry_list_mul (F.args_list_mul_2 _ _) (AutoListH.list___mul___list_int_3 l its.toArray n k t hfit hcap hlong) ⟨e, ?_⟩⟩)
  rw [hnew]
  exact ⟨.ref _, _, I.lnew (t' := s.toks) (r.rep k.toNat) (by rw [len_rep, Nat.mul_comm]; exact hz), rfl, q _ I.fresh⟩

end

section
variable {prog : Program} {w : World} {A : Around} {E : Value → Shared → Prop} {s : Shared}
theorem bounds_run {a c n : Nat} (hac : a ≤ c) (hc : c ≤ n) : sliceBounds (some (a : Int)) (some (c : Int)) none n = ((a : Int), (c : Int), 1) := by
  simp only [sliceBounds, Option.getD_none]
  have h1 : ¬ ((a : Int) < 0) := by omega
  have h2 : ¬ ((c : Int) < 0) := by omega
  simp only [h1, h2, if_false, show (1 : Int) > 0 by decide, if_true]
  congr 1
  · omega
  · congr 1; omega
set_option maxRecDepth 100000 in
theorem setItem_slice {l b sl : Addr} {items new : Array Value} {n n2 : Nat} {vl vu : Value} {a c : Nat} {Q : Unit → Shared → Prop}
    (e : s.heap.get? l = some { cls := .type "list", data := .seq items n }) (e2 : s.heap.get? b = some { cls := .type "list", data := .seq new n2 }) (hne : l ≠ b)
    (hs : s.heap.IsSliceOf sl vl vu .none) (pl : IsPart vl (some (a : Int))) (pu : IsPart vu (some (c : Int))) (hac : a ≤ c) (hc : c ≤ items.size)
    (hsz : items.size + new.size ≤ sizeLine) (h : Q () { s with heap := s.heap.update l (Obj.mapSeq fun xs => xs.extract 0 a ++ new ++ xs.extract c xs.size) }) :
    wpAny (model prog w) A (setItem (.ref l) (.ref sl) (.ref b)) Q E s := by
  have hl : s.heap.IsList l items := PySem.IsL.isList e
  have hb : s.heap.IsList b new := PySem.IsL.isList e2
  obtain ⟨os, hos, hcs, hds⟩ := id hs
  have hTs : s.TypeIs (.ref sl) "slice" := ⟨os, hos, hcs⟩
  have hstep : ¬ ((rawPart none == rawInt 0) = true) := Bool.false_ne_true
  have hsame : Builtin.List.listSameRef (.ref l) (.ref b) = false := by
    unfold Builtin.List.listSameRef
    exact beq_eq_false_iff_ne.mpr hne
  have hmax : (max (a : Int) (c : Int)).toNat = c := by omega
  have hz' : ((fun xs : Array Value => xs.extract 0 a ++ new ++ xs.extract c xs.size) items).size ≤ sizeLine + 1 := by
    simp only [Array.size_append, Array.size_extract]
    omega
  unfold setItem
  try with_reducible refine wpAny_holding ?_
  first | refine wpAny_bind (wpAny_pure ?_) | skip
  refine wpAny_bind (wpAny_sequenceKey hl.typeIs (by decide) ?_)
  refine wpAny_bind (wpAny_callSpecial?_slot (name := Str.ofString "__setitem__") hl.typeIs slot_list_setitem
    (wpAny_call_entry slot_list_setitem hl.typeIs entry_list_setitem ?_ (args_list_setitem _ _ _)))
  show wpAny _ _ (Builtin.List.listSubscript? (.ref sl) >>= _) _ _ s
  refine wpAny_bind ?_
  unfold Builtin.List.listSubscript?
  refine wpAny_bind (wpAny_specialOf hTs slice_no_index ?_)
  simp only [Option.isNone_none, if_true]
  refine wpAny_pure ?_
  show wpAny _ _ (typeOf (.ref sl) >>= _) _ _ s
  refine wpAny_bind (wpAny_typeOf hTs ?_)
  first
    | rw [if_neg (by decide)]
    | refine PySem.W.KFB.if_not (by decide) ?_
  rw [listSliceParts_eq]
  refine wpAny_bind (wpAny_bind (wpAny_field hos hds (x := .none) rfl (wpAny_bind (wpAny_listPart .none ?_))))
  rw [if_neg hstep]
  refine wpAny_bind (wpAny_field hos hds (x := vl) rfl (wpAny_bind (wpAny_listPart pl ?_)))
  refine wpAny_bind (wpAny_field hos hds (x := vu) rfl (wpAny_bind (wpAny_listPart pu (wpAny_pure ?_))))
  first
    | simp only [hsame, Bool.false_eq_true, if_false]
    | refine PySem.W.KFB.if_not hsame ?_
    | (dsimp only
       rw [if_neg (by rw [hsame]; exact Bool.false_ne_true)])
  refine wpAny_bind (m := Builtin.List.listAllItems (.ref b) "must assign iterable to extended slice") ?_
  unfold Builtin.List.listAllItems
  refine wpAny_bind (wpAny_typeOf hb.typeIs ?_)
  first
    | refine PySem.W.KFB.if_so (by decide) ?_
    | rw [if_pos (by decide)]
    | simp only [beq_self_eq_true, Bool.true_or, if_true]
  unfold Builtin.List.listItems
  refine wpAny_bind (wpAny_seqItems e2 rfl (wpAny_pure ?_))
  refine wpAny_bind (wpAny_bind (wpAny_seqItems e rfl (wpAny_pure ?_)))
  refine wpAny_bind (wpAny_of_eq ((sliceIndices_raw (some (a : Int)) (some (c : Int)) none items.size (by simp)).trans (congrArg (pure : Int × Int × Int → Sem (Int × Int × Int)) (bounds_run hac hc))) ?_)
  show wpAny _ _ (if ((1 : Int) == 1) = true then _ else _) _ _ s
  rw [if_pos (by decide)]
  refine wpAny_bind (wpAny_rule ?_)
  first
    | simp only [notLongL hsz, Bool.false_eq_true, if_false]
    | refine PySem.W.KFB.if_not (notLongL hsz) ?_
  first | refine wpAny_bind (wpAny_pure ?_) | skip
  show wpAny _ _ (updateSeq l (fun xs => xs.extract 0 ((a : Int)).toNat ++ new ++ xs.extract (max (a : Int) (c : Int)).toNat xs.size) >>= _) _ _ s
  rw [hmax, Int.toNat_natCast]
  refine wpAny_bind (wpAny_updateSeq (hz := Nat.le_trans (Nat.le_add_right _ _) hsz) (_hz' := hz') e rfl ?_)
  refine wpAny_bind (wpAny_letGo ?_)
  first
    | exact wpAny_bind (wpAny_pure (wpAny_pure ⟨.none, rfl, wpAny_pure h⟩))
    | exact wpAny_pure ⟨.none, rfl, wpAny_pure h⟩
end

section
variable {X : Cx}
end
end L2

namespace Att
open PySem PySem.W PySem.Calls PyProof.Rows

theorem ints_of_wellAll {P : Params} {h : Heap} : ∀ (ns : List Int) (vs : List Value), WellAll P h vs (ns.map WData.int) → IntsAre vs ns := by
  intro ns
  induction ns with
  | nil =>
    intro vs w
    rw [List.map_nil] at w
    cases w
    exact .nil
  | cons n ns ih =>
    intro vs w
    rw [List.map_cons] at w
    cases w with
    | cons a b =>
      cases a
      exact .cons _ _ (ih _ b)

theorem script_of {l : OpenLaw} {n : Nat} (hn : l.most = some n) {P : Params} {h : Heap} {args : List WData} {vals : List Value}
    (hpre : l.row.toRowW.claim.pre args = true) (hwl : WellAll P h vals args) :
    ∃ a vs ns, vals = [Value.ref a] ∧ args = [WData.list (ns.map WData.int)] ∧ h.get? a = some { cls := .type "list", data := .seq vs.toArray } ∧ IntsAre vs ns ∧ ns.length ≤ n := by
  have hsh : WShape.hasAll [] args [.list .int] = true := (pre_splitW hpre).1
  have hc : l.pre.holds [] { args := args } = true := (pre_splitW hpre).2
  obtain ⟨d, r, rfl, h1, h2⟩ := hasAllW_cons hsh
  obtain rfl := hasAllW_nil h2
  obtain ⟨xs, rfl, h3⟩ := hasW_list h1
  obtain ⟨ns, rfl⟩ := items_int h3
  have hlen : ns.length ≤ n := by
    unfold OpenLaw.pre at hc
    have h4 : (WTm.not (.lt (.lit (.int (n : Int))) (.len (.arg 0)))).holds [] { args := [.list (ns.map .int)] } = true := by
      have h4 := (holds_andW hc).1
      rw [hn] at h4
      exact h4
    have h5 := condW_of h4 (w_not (w_lt w_lit (w_len_list (w_arg rfl))))
    rw [List.length_map] at h5
    refine Nat.le_of_not_lt fun q => ?_
    have q' : (n : Int) < ((ns.length : Nat) : Int) := by omega
    first
      | (rw [decide_eq_true q'] at h5; exact absurd h5 (by decide))
      | (simp at h5; omega)
  cases hwl with
  | cons w1 w2 =>
    cases w2
    cases w1 with
    | list ho hall => exact ⟨_, _, ns, rfl, rfl, ho, ints_of_wellAll ns _ hall, hlen⟩

theorem post_true (l : OpenLaw) (args : List WData) : l.row.toRowW.claim.post args (.bool true) args = true :=
  postW_of (r := l.row.toRowW) (X := (true == true))
    (show WShape.has [] (.bool true) .bool = true by first | rfl | decide | simp [WShape.has, WShape.arms, WShape.armsAll])
    (show (WTm.eq .res (.lit (.bool true))).value [] { args := args, res := some (.bool true), after := args } = some (.bool (true == true)) from w_eq_bool (w_res rfl) w_lit) rfl

theorem attach_call {l : OpenLaw} {n : Nat} {q : Program} {loose : List Str} {XP : (Str → Option Value) → Heap → Prop} {YP : World → Heap → Prop} {d : DefRec}
    (hn : l.most = some n) (hdf : d.params.defaults = [])
    (call : ∀ (w : World) (s₀ s₁ : Shared) (mg mb : Str → Option Value) (fa : Addr) (o : Obj) (pm cd doc : Value) (a : Addr) (vs : List Value) (ns : List Int),
      Ground q loose [] XP w s₀ mg mb s₁.heap → YP w s₁.heap →
      s₁.heap.get? fa = some o → o.data = .func (docDef d.name d.params d.body d.scope pm cd doc) → s₁.heap.CodeRec cd d.name → mg d.name = some (.ref fa) →
      s₁.heap.get? a = some { cls := .type "list", data := .seq vs.toArray } → IntsAre vs ns → ns.length ≤ n → s₁.gens = #[] →
      codeAny (model l.prog w) callerA (.call (.ref fa) ⟨[.ref a], []⟩) (fun r s' => r = .ok (.ret (.bool true)) ∧ OldK s₁.heap s'.heap ∧ s'.os = s₁.os ∧ AllBare s'.gens) s₁) :
    WalkO q loose XP YP l.row.toRowW d [] (fun f vs => PySem.call f vs) := by
  intro w s₀ s₁ mg mb G Y fa o pm cd doc dV kV ho hd hcd hD hmg hg args vals as hpre hlay hrd hwl hlo
  obtain rfl : dV = .none := Dflts.none hD hdf
  obtain rfl : kV = .none := Dflts.noKw hD
  obtain ⟨a, vs, ns, rfl, rfl, hobj, hints, hlen⟩ := script_of hn hpre hwl
  refine enter_call (codeAny_mono (call w s₀ s₁ mg mb fa o pm cd doc a vs ns G Y ho (fd_plain hd) hcd hmg hobj hints hlen hg) fun r s' hq => ?_)
  obtain ⟨rfl, h2, h3, h4⟩ := hq
  exact ⟨.inl ⟨.bool true, .bool true, [], rfl, fun _ => rfl, .bool true, post_true l _, fun _ => ⟨List.Pairwise.nil, fun _ hm => (nomatch hm)⟩⟩, h2, h3, h4⟩

section
variable {prog : Program} {w : World} {A : Around} {E : Value → Shared → Prop} {s : Shared} {K : Frag}

end
end Att

namespace L2
open PySem PySem.Spec PyProof.Rows

theorem vals_ints : ∀ {vs : List Value} {ns : List Int}, IntsAre vs ns → Vals (ns.map V.int) vs
  | _, _, .nil => .nil
  | _, _, .cons n t h => .cons ⟨t, rfl⟩ (vals_ints h)

def Only (H : Hp) : Prop := ∀ b, H b = none ∨ ∃ o xs, H b = some (.frz o (.lst xs))

theorem law_call {P : Program} {w : World} {K : PySem.W.Frag} {mg mb : Str → Option Value} {CX : CXT} {k : Nat} {fa a : Addr} {fd : FuncData} {x : Str} {sp : Sp} {s₁ : Shared} {vs : List Value} {ns : List Int}
    (KX : K.In s₁.heap) (hns : s₁.heap.Ns mainGlobals mg) (hb : s₁.heap.Ns builtinsNs mb) (hbb : ∀ x : Str, x ≠ "__name__" → mb x = bootBuiltins x) (hlim : s₁.heap.NoLimit) (hg : s₁.gens = #[])
    (ha : s₁.heap.get? a = some { cls := .type "list", data := .seq vs.toArray }) (hi : IntsAre vs ns) (hl : ns.length ≤ sizeLine) (hr : Room k callerA)
    (F : ∀ base : Heap, K.In base → base.Ns mainGlobals mg → FnOk P w K mg base CX k fa fd [x] sp) (hbind : ∀ (s : Shared) (u : Value), BindsTo s fd ⟨[u], []⟩ [(x, u)])
    (hsp : ∀ H : Hp, Only H → SqL K H a (ns.map V.int) → sp [.ref a] H (fun v _ => v = .bl true) fun _ _ _ => False)
    (hCX : ∀ H e s', CX [] H s₁ (fun _ _ _ => False) e s' → False) :
    codeAny (model P w) callerA (.call (.ref fa) ⟨[.ref a], []⟩) (fun r s' => r = .ok (.ret (.bool true)) ∧ OldK s₁.heap s'.heap ∧ s'.os = s₁.os ∧ AllBare s'.gens) s₁ := by
  have rv := vals_ints hi
  have lenV := hi.length
  -- from an abstract heap in which nothing but the script may be tracked
  have core : ∀ H : Hp, Only H → SqL K H a (ns.map V.int) → HOk P w H s₁.heap → (∀ b, H b ≠ none → b = a) → (H a ≠ none → K.lookup a = none) →
      codeAny (model P w) callerA (.call (.ref fa) ⟨[.ref a], []⟩) (fun r s' => r = .ok (.ret (.bool true)) ∧ OldK s₁.heap s'.heap ∧ s'.os = s₁.os ∧ AllBare s'.gens) s₁ := by
    intro H hO hS hok hA hK
    have base_of : ∀ {b : Addr} {o : Obj}, s₁.heap.get? b = some o → H b = none → (hidT s₁.heap H).get? b = some o := fun e n => hidT_get e n
    have noA : ∀ {b : Addr} {o : Obj} {es : Array DictEntry} {ep : Nat}, s₁.heap.get? b = some o → o.data = .dict es ep → H b = none := fun {b o es ep} e d => by
      cases q : H b with
      | none => rfl
      | some u =>
        have e' : b = a := hA b (by rw [q]; simp)
        subst e'
        rw [ha] at e; cases e
        have d' : Data.seq vs.toArray _ = Data.dict es ep := d
        cases d'
    have nsK : ∀ {b : Addr} {m : Str → Option Value}, s₁.heap.Ns b m → (hidT s₁.heap H).Ns b m := fun {b m} ⟨o, es, ep, e, d, r⟩ => ⟨o, es, ep, base_of e (noA e d), d, r⟩
    have hKb : K.In (hidT s₁.heap H) := fun b o e => base_of (KX b o e) (by
      cases q : H b with
      | none => rfl
      | some u =>
        have e' : b = a := hA b (by rw [q]; simp)
        subst e'
        rw [hK (by rw [q]; simp)] at e; cases e)
    have hM : Mod K mg (hidT s₁.heap H) := ⟨hKb, nsK hns, ⟨mb, nsK hb, hbb⟩, let ⟨mc, h1, h2⟩ := hlim; ⟨mc, nsK h1, h2⟩⟩
    have e0 : Env0 P w K mg (hidT s₁.heap H) callerA [] s₁ H := ⟨rfl, hM, fun b o e => of_hidT e, Nat.le_of_eq (hidT_size _ _), trivial, fun b hb => absurd (show b ∈ ([] : List Addr) from hb) (by simp), hok, .of_eq hg⟩
    refine codeAny_mono ((F _ hKb (nsK hns)).run callerA [] s₁ H ⟨[.ref a], []⟩ [.ref a] [.ref a] _ _ hr e0 (hbind s₁ (.ref a)) (.cons rfl .nil) (hsp H hO hS)) fun r s' h => ?_
    cases r with
    | error e => exact (hCX H e s' h).elim
    | ok fl =>
      cases fl with
      | next => exact False.elim h
      | brk => exact False.elim h
      | cont => exact False.elim h
      | ret u =>
        obtain ⟨v, H', os, bare, un, hok', r', q⟩ := h
        have q' : v = .bl true := q
        subst q'
        obtain rfl : u = Value.bool true := r'
        refine ⟨rfl, OldK.of_keep fun b o e => ?_, os, bare⟩
        cases q : H b with
        | none => exact un.keep b o e q (by intro z; exact absurd (show b ∈ ([] : List Addr) from z) (by simp)) (by simp)
        | some u =>
          rcases hO b with z | ⟨ob, xs, z⟩
          · rw [q] at z; cases z
          · have z2 := un.frzs b ob _ z
            obtain ⟨e1, _⟩ := hok b _ z
            obtain ⟨e2, _⟩ := hok' b _ z2
            rw [e] at e1; cases e1
            exact e2
  cases hk : K.lookup a with
  | some o =>
    -- the script is one of the module's own objects
    have e := KX a o hk
    rw [ha] at e
    cases e
    refine core (fun _ => none) (fun _ => .inl rfl) (.inr ⟨_, vs.toArray, _, hk, rfl, rfl, rfl, by rw [List.size_toArray, lenV]; exact hl, by simpa using rv⟩) (fun b u z => by have z' : (none : Option HO) = some u := z; cases z') (fun b z => absurd rfl z) fun z => absurd rfl z
  | none =>
    refine core (fun b => if b = a then some (.frz { cls := .type "list", data := .seq vs.toArray } (.lst (ns.map V.int))) else none) (fun b => ?_) (.inl (.inr ⟨{ cls := .type "list", data := .seq vs.toArray }, if_pos rfl⟩)) (fun b u z => ?_) (fun b z => ?_) fun _ => hk
    · by_cases hb : b = a
      · exact .inr ⟨_, _, if_pos hb⟩
      · exact .inl (if_neg hb)
    · by_cases hb : b = a
      · have z' := (if_pos hb).symm.trans z
        cases z'
        subst hb
        exact ⟨ha, by rw [List.length_map]; exact hl, vs, _, rv, ha⟩
      · have z' := (if_neg hb).symm.trans z
        cases z'
    · by_cases hb : b = a
      · exact hb
      · exact absurd (if_neg hb) z
end L2

namespace L2
open PySem PySem.Spec PyProof.Rows

theorem walk_of {l : PySem.W.OpenLaw} {n k : Nat} {q : Program} {loose : List Str} {XP : (Str → Option Value) → Heap → Prop} {YP : World → Heap → Prop} {d : DefRec} {K : Params → PySem.W.Frag} {CX : World → CXT} {sp : World → Sp} {x : Str}
    (hn : l.most = some n) (hn2 : n ≤ sizeLine) (hdf : d.params.defaults = []) (hr : Room k callerA)
    (hY : ∀ (w : World) (h : Heap), YP w h → (K w.params).In h)
    (F : ∀ (w : World) (mg : Str → Option Value) (fa : Addr) (h : Heap), (K w.params).In h → h.Ns mainGlobals mg → mg d.name = some (.ref fa) →
      ∃ fd : FuncData, (∀ (s : Shared) (u : Value), BindsTo s fd ⟨[u], []⟩ [(x, u)]) ∧
        ∀ base : Heap, (K w.params).In base → base.Ns mainGlobals mg → FnOk l.prog w (K w.params) mg base (CX w) k fa fd [x] (sp w))
    (hsp : ∀ (w : World) (H : Hp) (a : Addr) (ns : List Int), ns.length ≤ n → Only H → SqL (K w.params) H a (ns.map V.int) → sp w [.ref a] H (fun v _ => v = .bl true) fun _ _ _ => False)
    (hCX : ∀ (w : World) (H : Hp) (s : Shared) (e : Value) (s' : Shared), CX w [] H s (fun _ _ _ => False) e s' → False) :
    PySem.W.WalkO q loose XP YP l.row.toRowW d [] (fun f vs => PySem.call f vs) := by
  refine Att.attach_call hn hdf fun w s₀ s₁ mg mb fa o pm cd doc a vs ns G Y ho hd hcd hmg hobj hints hlen hg => ?_
  have KX := hY w _ Y
  obtain ⟨fd, hb, hF⟩ := F w mg fa _ KX G.T.g hmg
  exact law_call KX G.T.g G.T.b G.T.builtins G.T.nolimit hg hobj hints (Nat.le_trans hlen hn2) hr hF hb (fun H hO hS => hsp w H a ns hlen hO hS) fun H e s' => hCX w H s₁ e s'
end L2

namespace L2
open PySem PySem.Spec PyProof.Rows

def defArgs (s : Stmt) : Arguments := match s with
  | .FunctionDef _ a _ _ _ _ _ _ _ _ => a
  | _ => { posonlyargs := [], args := [], vararg := none, kwonlyargs := [], kw_defaults := [], kwarg := none, defaults := [] }
def defBody (s : Stmt) : List Stmt := match s with
  | .FunctionDef _ _ b _ _ _ _ _ _ _ => b
  | _ => []
def defScope (s : Stmt) : Scope := match s with
  | .FunctionDef _ _ _ _ _ _ sc _ _ _ => sc
  | _ => { kind := .function, names := [], isGenerator := false, isCoroutine := false }

abbrev CX0 : CXT := fun _ _ _ _ _ _ => False
abbrev E0 : XK := fun _ _ _ => False
theorem pass0 {X : Cx} : Passes CX0 X E0 := fun _ _ _ _ _ _ _ h => h.elim

structure Fun (K : PySem.W.Frag) (x qual : Str) (st : Stmt) (f : Addr) (fd : FuncData) : Prop where
  ex : ∃ (oc : Value) (od : Option Addr) (kV doc pm : Value) (an : Option Addr) (cdv ct : Value) (osl : Array (Option Value)),
    fd = PySem.W.fnOf x qual (defArgs st) (defBody st) (defScope st) .none kV doc pm an cdv ct ∧ K.lookup f = some ⟨oc, od, .func fd, osl⟩ ∧ PySem.W.codeIn K cdv qual = true
  kp : PySem.W.keepIn K (.ref f) = true
section
variable {P : Program} {w : World} {K : PySem.W.Frag} {mg : Str → Option Value} {base : Heap}
theorem Fun.ok {x qual : Str} {st : Stmt} {f : Addr} {fd : FuncData} {N ps : List Str} {k : Nat} {sp : Sp} (F : Fun K x qual st f fd) (S : FnScope N ps (defScope st)) (len : ∀ vs H Q E, sp vs H Q E → vs.length = ps.length)
    (hbody : ∀ (cdv : Value) (A : Around) (outer : List Env) (s : Shared) (H : Hp) (vs : List V) (Q : VK) (E : XK), Room k (A.deeper (envOfC qual (defScope st) s.heap.objs.size f cdv)) → sp vs H Q E →
      ∃ t, PSs (cxOf CX0 P w K mg base N qual (defScope st) f cdv A outer s H E).nox (defBody st) t ∧ t { nx := fun _ H' => Q .non H', rt := Q } (start N vs) H) : FnOk P w K mg base CX0 (k + 1) f fd ps sp := by
  obtain ⟨oc, od, kV, doc, pm, an, cdv, ct, osl, rfl, lk, hcd⟩ := F.ex
  refine fn_of lk hcd S len fun A outer s H vs Q E hr hsp => ?_
  obtain ⟨t, h, q⟩ := hbody cdv A outer s H vs Q E hr hsp
  exact ⟨t, h.nox, q⟩
theorem Fun.binds {x qual : Str} {st : Stmt} {f : Addr} {fd : FuncData} {ps : List Str} (F : Fun K x qual st f fd)
    (h : ∀ (kV doc pm : Value) (an : Option Addr) (cdv ct : Value) (us : List Value), us.length = ps.length → bindArgs (PySem.W.fnOf x qual (defArgs st) (defBody st) (defScope st) .none kV doc pm an cdv ct) ⟨us, []⟩ = pure (ps.zip us)) : Binds K fd ps [] := by
  obtain ⟨oc, od, kV, doc, pm, an, cdv, ct, osl, rfl, lk, hcd⟩ := F.ex
  exact .all (h kV doc pm an cdv ct)
theorem fun_mk {x qual : Str} {st : Stmt} {f : Addr} {oc : Value} {od an : Option Addr} {osl : Array (Option Value)} {kV doc pm cdv ct : Value} (l : K.lookup f = some ⟨oc, od, .func (PySem.W.fnOf x qual (defArgs st) (defBody st) (defScope st) .none kV doc pm an cdv ct), osl⟩)
    (c : PySem.W.codeIn K cdv qual = true) (k : PySem.W.keepIn K (.ref f) = true) : Fun K x qual st f (PySem.W.fnOf x qual (defArgs st) (defBody st) (defScope st) .none kV doc pm an cdv ct) := ⟨⟨oc, od, kV, doc, pm, an, cdv, ct, osl, rfl, l, c⟩, k⟩
end
section
variable {X : Cx}
theorem pv (i : Nat) {x : Str} {pos : Pos} (hN : X.N[i]? = some x := by rfl) (hv : Vis X.env.scope x := by first | exact Or.inl rfl | exact Or.inr (Or.inl rfl) | exact Or.inr (Or.inr rfl)) (hd : (x == ("__debug__" : Str)) = false := by decide)
    (hcd : (x == ("__classdict__" : Str)) = false := by decide) : PE X (.Name x pos) (tVar i) := pe_var hN hv hd hcd
end

theorem iteF {A B : Prop} (h : B) : if false = true then A else B := by
  rw [if_neg Bool.false_ne_true]
  exact h
theorem iteT {A B : Prop} (h : A) : if true = true then A else B := by
  rw [if_pos rfl]
  exact h
theorem ite2 {c A B : Prop} [Decidable c] (h1 : c → A) (h2 : ¬ c → B) : if c then A else B := by
  by_cases h : c
  · rw [if_pos h]
    exact h1 h
  · rw [if_neg h]
    exact h2 h
theorem iteNS {c A B : Prop} [Decidable c] (hc : c) (h : B) : if (!decide c) = true then A else B := by
  rw [decide_eq_true hc]
  exact iteF h

def Same (H H' : Hp) : Prop := ∀ b o, H b = some o → H' b = some o
theorem Same.refl (H : Hp) : Same H H := fun _ _ h => h
theorem Same.trans {H H1 H2 : Hp} (a : Same H H1) (b : Same H1 H2) : Same H H2 := fun c o h => b c o (a c o h)
theorem Same.free {H H' : Hp} (e : Same H H') {l : Addr} (h : H' l = Option.none) : H l = Option.none := by
  cases q : H l with
  | none => rfl
  | some o =>
    rw [e l o q] at h
    cases h
theorem Same.seq {K : PySem.W.Frag} {H H' : Hp} {a : Addr} {xs : List V} (e : Same H H') (h : SqL K H a xs) : SqL K H' a xs := by
  rcases h with (h | ⟨o, h⟩) | h
  · exact .inl (.inl (e _ _ h))
  · exact .inl (.inr ⟨o, e _ _ h⟩)
  · exact .inr h

end L2


set_option linter.all false
namespace KM
abbrev Tx := List Nat
def leT (a b : Tx) : Bool := decide (a ≤ b)
def srt (ts : List Tx) : List Tx := ts.mergeSort leT
theorem leT_iff {a b : Tx} : leT a b = true ↔ a ≤ b := by unfold leT; exact decide_eq_true_iff
theorem srt_perm (ts : List Tx) : (srt ts).Perm ts := List.mergeSort_perm ts leT
theorem srt_pw (ts : List Tx) : (srt ts).Pairwise (fun a b => a ≤ b) := by
  have h := List.pairwise_mergeSort (le := leT) (fun a b c h1 h2 => leT_iff.mpr (List.le_trans (leT_iff.mp h1) (leT_iff.mp h2)))
    (fun a b => by
      rcases List.le_total a b with h | h
      · rw [leT_iff.mpr h]; rfl
      · rw [leT_iff.mpr h, Bool.or_true]) ts
  exact h.imp fun h => leT_iff.mp h
theorem srt_of {ss ts : List Tx} (hp : ss.Perm ts) (hs : ss.Pairwise (fun a b => a ≤ b)) : ss = srt ts :=
  List.Perm.eq_of_pairwise (le := fun a b => a ≤ b) (fun a b _ _ h1 h2 => List.le_antisymm h1 h2) hs (srt_pw ts) (hp.trans (srt_perm ts).symm)
theorem srt_congr {ss ts : List Tx} (hp : ss.Perm ts) : srt ss = srt ts := srt_of ((srt_perm ss).trans hp) (srt_pw ss)

abbrev Ab := List (Option Nat)
theorem getD_lt {α : Type} {l : List α} {i : Nat} {d : α} (h : i < l.length) : l.getD i d = l[i] := by simp [h]
theorem sub_sum : ∀ {l₁ l₂ : List Nat}, l₁.Sublist l₂ → l₁.sum ≤ l₂.sum
  | _, _, .slnil => Nat.le_refl _
  | _, _, .cons a h => by rw [List.sum_cons]; have := sub_sum h; omega
  | _, _, .cons_cons a h => by rw [List.sum_cons, List.sum_cons]; have := sub_sum h; omega
def kids (ab : Ab) (k : Nat) : List Nat := (List.range ab.length).filter fun j => ab[j]? == some (some k)
theorem mem_kids {ab : Ab} {k j : Nat} : j ∈ kids ab k ↔ ab[j]? = some (some k) := by
  unfold kids
  rw [List.mem_filter, List.mem_range]
  constructor
  · intro h; exact eq_of_beq h.2
  · intro h
    exact ⟨(List.getElem?_eq_some_iff.mp h).1, by rw [h]; exact beq_self_eq_true _⟩
theorem kids_nodup (ab : Ab) (k : Nat) : (kids ab k).Nodup := List.Pairwise.sublist List.filter_sublist List.nodup_range
theorem kids_lt {ab : Ab} {k j : Nat} (h : j ∈ kids ab k) : j < ab.length := (List.getElem?_eq_some_iff.mp (mem_kids.mp h)).1
def brk (t : Tx) : Tx := 40 :: (t ++ [41])
def form (ab : Ab) : Nat → Nat → Tx
  | 0, _ => []
  | f + 1, k => brk (srt ((kids ab k).map (form ab f))).flatten

structure Renum (ab ab' : Ab) (nm : List Nat) : Prop where
  len : ab'.length = ab.length
  perm : nm.Perm (List.range ab.length)
  par : ∀ (j p : Nat), ab[j]? = some (some p) → p < ab.length
  at' : ∀ (j k : Nat), nm[j]? = some k → ab'[k]? = some ((ab[j]?.getD none).map fun p => nm.getD p 0)
section
variable {ab ab' : Ab} {nm : List Nat}
theorem Renum.nd (R : Renum ab ab' nm) : nm.Nodup := R.perm.nodup_iff.mpr List.nodup_range
theorem Renum.nlen (R : Renum ab ab' nm) : nm.length = ab.length := by rw [R.perm.length_eq, List.length_range]
theorem Renum.inj (R : Renum ab ab' nm) {i j : Nat} (hi : i < ab.length) (hj : j < ab.length) (h : nm.getD i 0 = nm.getD j 0) : i = j := by
  have hi' : i < nm.length := by rw [R.nlen]; exact hi
  have hj' : j < nm.length := by rw [R.nlen]; exact hj
  rw [getD_lt hi', getD_lt hj'] at h
  exact (List.getElem_inj R.nd).mp h
theorem Renum.mem_kids (R : Renum ab ab' nm) {k : Nat} (hk : k < ab.length) (c : Nat) : c ∈ kids ab' (nm.getD k 0) ↔ c ∈ (kids ab k).map fun j => nm.getD j 0 := by
  constructor
  · intro h
    have h1 : c ∈ nm := by
      rw [R.perm.mem_iff, List.mem_range, ← R.len]
      exact kids_lt h
    obtain ⟨j, hj, e⟩ := List.getElem_of_mem h1
    have hj' : j < ab.length := by rw [← R.nlen]; exact hj
    have e1 : nm[j]? = some c := by rw [List.getElem?_eq_getElem hj, e]
    have e2 := R.at' j c e1
    rw [KM.mem_kids.mp h] at e2
    rw [List.getElem?_eq_getElem hj'] at e2
    have e3 := Option.some.inj e2
    cases q : ab[j] with
    | none => rw [Option.getD_some, q] at e3; cases e3
    | some p =>
      rw [Option.getD_some, q] at e3
      have e4 : nm.getD k 0 = nm.getD p 0 := Option.some.inj e3
      have hp : ab[j]? = some (some p) := by rw [List.getElem?_eq_getElem hj', q]
      have e5 := R.inj hk (R.par j p hp) e4
      subst e5
      refine List.mem_map.mpr ⟨j, KM.mem_kids.mpr hp, ?_⟩
      show nm.getD j 0 = c
      rw [getD_lt hj, e]
  · intro h
    obtain ⟨j, hj, e⟩ := List.mem_map.mp h
    have hl := kids_lt hj
    have hj' : j < nm.length := by rw [R.nlen]; exact hl
    have e1 : nm[j]? = some c := by
      rw [List.getElem?_eq_getElem hj', ← e]
      rw [getD_lt hj']
    have e2 := R.at' j c e1
    rw [KM.mem_kids.mp hj] at e2
    exact KM.mem_kids.mpr e2
theorem Renum.kids_perm (R : Renum ab ab' nm) {k : Nat} (hk : k < ab.length) : (kids ab' (nm.getD k 0)).Perm ((kids ab k).map fun j => nm.getD j 0) := by
  refine (List.perm_ext_iff_of_nodup (kids_nodup _ _) ?_).mpr (R.mem_kids hk)
  refine List.pairwise_map.mpr ?_
  have h := kids_nodup ab k
  rw [List.nodup_iff_pairwise_ne] at h
  refine List.Pairwise.imp_of_mem ?_ h
  intro i j hi hj hne e
  exact hne (R.inj (kids_lt hi) (kids_lt hj) e)
theorem Renum.form (R : Renum ab ab' nm) : ∀ (f k : Nat), k < ab.length → form ab' f (nm.getD k 0) = form ab f k
  | 0, _, _ => rfl
  | f + 1, k, hk => by
    show brk _ = brk _
    congr 2
    refine srt_congr (((R.kids_perm hk).map _).trans ?_)
    rw [List.map_map]
    have e : (kids ab k).map (KM.form ab' f ∘ fun j => nm.getD j 0) = (kids ab k).map (KM.form ab f) := by
      refine List.map_congr_left fun j hj => ?_
      exact R.form f j (kids_lt hj)
    rw [e]
end

structure Tree (ab : Ab) (r : Nat) (rk : Nat → Nat) : Prop where
  root : ab[r]? = some none
  only : ∀ (j : Nat), ab[j]? = some none → j = r
  up : ∀ (j p : Nat), ab[j]? = some (some p) → p < ab.length ∧ rk p < rk j
  low : ∀ (j : Nat), j < ab.length → rk j < ab.length
section
variable {ab : Ab} {r : Nat} {rk : Nat → Nat}
theorem Tree.stable (T : Tree ab r rk) : ∀ (d k f g : Nat), k < ab.length → ab.length - rk k ≤ d → ab.length - rk k ≤ f → ab.length - rk k ≤ g → form ab f k = form ab g k
  | 0, k, f, g, hk, hd, _, _ => by have := T.low k hk; omega
  | d + 1, k, f, g, hk, hd, hf, hg => by
    have h0 := T.low k hk
    obtain ⟨f', rfl⟩ : ∃ f', f = f' + 1 := ⟨f - 1, by omega⟩
    obtain ⟨g', rfl⟩ : ∃ g', g = g' + 1 := ⟨g - 1, by omega⟩
    show brk _ = brk _
    congr 3
    refine List.map_congr_left fun c hc => ?_
    have h1 := (T.up c k (mem_kids.mp hc)).2
    have h2 := T.low c (kids_lt hc)
    exact T.stable d c f' g' (kids_lt hc) (by omega) (by omega) (by omega)
def fm (ab : Ab) (k : Nat) : Tx := form ab ab.length k
theorem Tree.fm_eq (T : Tree ab r rk) {k : Nat} (hk : k < ab.length) : fm ab k = brk (srt ((kids ab k).map (fm ab))).flatten := by
  have e : fm ab k = form ab (ab.length + 1) k := T.stable _ k _ _ hk (Nat.le_refl _) (by omega) (by omega)
  rw [e]
  rfl
end

theorem sum_map_le {α : Type} (l : List α) (f g : α → Nat) (h : ∀ a ∈ l, f a ≤ g a) : (l.map f).sum ≤ (l.map g).sum := by
  induction l with
  | nil => exact Nat.le_refl _
  | cons a l ih =>
    rw [List.map_cons, List.map_cons, List.sum_cons, List.sum_cons]
    exact Nat.add_le_add (h a List.mem_cons_self) (ih fun b hb => h b (List.mem_cons_of_mem _ hb))
theorem sum_map_add {α : Type} (l : List α) (f g : α → Nat) : (l.map fun a => f a + g a).sum = (l.map f).sum + (l.map g).sum := by
  induction l with
  | nil => rfl
  | cons a l ih => rw [List.map_cons, List.map_cons, List.map_cons, List.sum_cons, List.sum_cons, List.sum_cons, ih]; omega
theorem sum_const {α : Type} (l : List α) (c : Nat) : (l.map fun _ => c).sum = l.length * c := by
  induction l with
  | nil => simp
  | cons a l ih => rw [List.map_cons, List.sum_cons, ih, List.length_cons, Nat.add_mul]; omega
theorem one_above (o : Option (Option Nat)) (x : Nat) : ∀ l : List Nat, l.Nodup → (l.map fun k => if o == some (some k) then x else 0).sum ≤ x
  | [], _ => by simp
  | k :: l, h => by
    rw [List.map_cons, List.sum_cons]
    have hn := List.nodup_cons.mp h
    by_cases e : (o == some (some k)) = true
    · rw [if_pos e]
      have z : (l.map fun k => if o == some (some k) then x else 0) = l.map fun _ => 0 := by
        refine List.map_congr_left fun j hj => ?_
        rw [if_neg]
        intro q
        rw [eq_of_beq e] at q
        have : k = j := Option.some.inj (Option.some.inj (eq_of_beq q))
        subst this
        exact hn.1 hj
      rw [z, sum_const]
      omega
    · rw [if_neg e]
      have := one_above o x l hn.2
      omega
theorem sum_filter (ab : Ab) (g : Nat → Nat) (ks : List Nat) (hk : ks.Nodup) : ∀ l : List Nat,
    (ks.map fun k => ((l.filter fun j => ab[j]? == some (some k)).map g).sum).sum ≤ (l.map g).sum
  | [] => by
    have : (ks.map fun k => ((([] : List Nat).filter fun j => ab[j]? == some (some k)).map g).sum) = ks.map fun _ => 0 := rfl
    rw [this, sum_const]
    simp
  | j :: l => by
    have ih := sum_filter ab g ks hk l
    have e : (ks.map fun k => (((j :: l).filter fun i => ab[i]? == some (some k)).map g).sum) =
        ks.map fun k => (if ab[j]? == some (some k) then g j else 0) + ((l.filter fun i => ab[i]? == some (some k)).map g).sum := by
      refine List.map_congr_left fun k _ => ?_
      by_cases q : (ab[j]? == some (some k)) = true
      · rw [List.filter_cons_of_pos (p := fun i => ab[i]? == some (some k)) q, List.map_cons, List.sum_cons, if_pos q]
      · rw [List.filter_cons_of_neg (p := fun i => ab[i]? == some (some k)) q, if_neg q, Nat.zero_add]
    rw [e, sum_map_add, List.map_cons, List.sum_cons]
    have := one_above ab[j]? (g j) ks hk
    omega
theorem brk_len (t : Tx) : (brk t).length = t.length + 2 := by
  unfold brk
  rw [List.length_cons, List.length_append, List.length_singleton]
theorem flat_len (ts : List Tx) : ts.flatten.length = (ts.map (·.length)).sum := List.length_flatten
theorem srt_len (ts : List Tx) : (srt ts).flatten.length = (ts.map (·.length)).sum := by
  rw [flat_len]
  exact ((srt_perm ts).map _).sum_nat
theorem form_len (ab : Ab) (f k : Nat) : (form ab (f + 1) k).length = ((kids ab k).map fun c => (form ab f c).length).sum + 2 := by
  show (brk _).length = _
  rw [brk_len, srt_len, List.map_map]
  rfl
theorem forms_all (ab : Ab) : ∀ f : Nat, ((List.range ab.length).map fun k => (form ab f k).length).sum ≤ 2 * ab.length * f
  | 0 => by
    have : ((List.range ab.length).map fun k => (form ab 0 k).length) = (List.range ab.length).map fun _ => 0 := rfl
    rw [this, sum_const]; simp
  | f + 1 => by
    have e : ((List.range ab.length).map fun k => (form ab (f + 1) k).length) = (List.range ab.length).map fun k => ((kids ab k).map fun c => (form ab f c).length).sum + 2 :=
      List.map_congr_left fun k _ => form_len ab f k
    rw [e, sum_map_add, sum_const, List.length_range]
    have h1 : ((List.range ab.length).map fun k => ((kids ab k).map fun c => (form ab f c).length).sum).sum ≤ _ := sum_filter ab (fun c => (form ab f c).length) (List.range ab.length) List.nodup_range (List.range ab.length)
    have h2 := forms_all ab f
    rw [Nat.mul_add]
    omega
theorem mem_le_sum {l : List Nat} {x : Nat} (h : x ∈ l) : x ≤ l.sum := by
  induction l with
  | nil => cases h
  | cons a l ih =>
    rw [List.sum_cons]
    rcases List.mem_cons.mp h with rfl | h
    · omega
    · have := ih h; omega
theorem fm_kids_len (ab : Ab) (k : Nat) : ((kids ab k).map fun c => (fm ab c).length).sum ≤ 2 * ab.length * ab.length := by
  have h1 : ((kids ab k).map fun c => (fm ab c).length).sum ≤ ((List.range ab.length).map fun c => (form ab ab.length c).length).sum := by
    unfold kids fm
    exact sub_sum (List.Sublist.map _ List.filter_sublist)
  exact Nat.le_trans h1 (forms_all ab _)

def kidsTo (ab : Ab) (k i : Nat) : List Nat := (List.range i).filter fun j => ab[j]? == some (some k)
theorem kidsTo_all (ab : Ab) (k : Nat) : kidsTo ab k ab.length = kids ab k := rfl
theorem kidsTo_hit {ab : Ab} {k i : Nat} (h : ab[i]? = some (some k)) : kidsTo ab k (i + 1) = kidsTo ab k i ++ [i] := by
  unfold kidsTo
  rw [List.range_succ, List.filter_append]
  congr 1
  rw [List.filter_cons_of_pos (by rw [h]; exact beq_self_eq_true _)]
  rfl
theorem kidsTo_miss {ab : Ab} {k i : Nat} (h : ab[i]? ≠ some (some k)) : kidsTo ab k (i + 1) = kidsTo ab k i := by
  unfold kidsTo
  rw [List.range_succ, List.filter_append, List.filter_cons_of_neg (by intro q; exact h (eq_of_beq q))]
  simp
theorem kidsTo_len (ab : Ab) (k i : Nat) : (kidsTo ab k i).length ≤ i := by
  have h := List.length_filter_le (fun j => ab[j]? == some (some k)) (List.range i)
  rw [List.length_range] at h
  exact h
theorem kids_len (ab : Ab) (k : Nat) : (kids ab k).length ≤ ab.length := kidsTo_len ab k ab.length
def rootsTo (ab : Ab) (i : Nat) : List Nat := (List.range i).filter fun j => ab[j]? == some none
theorem rootsTo_hit {ab : Ab} {i : Nat} (h : ab[i]? = some none) : rootsTo ab (i + 1) = rootsTo ab i ++ [i] := by
  unfold rootsTo
  rw [List.range_succ, List.filter_append]
  congr 1
  rw [List.filter_cons_of_pos (by rw [h]; exact beq_self_eq_true _)]
  rfl
theorem rootsTo_miss {ab : Ab} {i : Nat} (h : ab[i]? ≠ some none) : rootsTo ab (i + 1) = rootsTo ab i := by
  unfold rootsTo
  rw [List.range_succ, List.filter_append, List.filter_cons_of_neg (by intro q; exact h (eq_of_beq q))]
  simp
theorem rootsTo_len (ab : Ab) (i : Nat) : (rootsTo ab i).length ≤ i := by
  have h := List.length_filter_le (fun j => ab[j]? == some none) (List.range i)
  rw [List.length_range] at h
  exact h
section
variable {ab : Ab} {r : Nat} {rk : Nat → Nat}
theorem Tree.roots (T : Tree ab r rk) : rootsTo ab ab.length = [r] := by
  refine List.perm_singleton.mp ((List.perm_ext_iff_of_nodup (List.Pairwise.sublist List.filter_sublist List.nodup_range) (by simp)).mpr fun j => ?_)
  rw [List.mem_singleton]
  rw [List.mem_filter, List.mem_range]
  constructor
  · intro h; exact T.only j (eq_of_beq h.2)
  · rintro rfl
    exact ⟨(List.getElem?_eq_some_iff.mp T.root).1, by rw [T.root]; exact beq_self_eq_true _⟩
theorem Tree.rlt (T : Tree ab r rk) : r < ab.length := (List.getElem?_eq_some_iff.mp T.root).1

structure Bfs (ab : Ab) (r : Nat) (ord : List Nat) (pl : Nat) : Prop where
  nd : ord.Nodup
  lt : ∀ k ∈ ord, k < ab.length
  eq : ord = r :: (ord.take pl).flatMap (kids ab)
  le : pl ≤ ord.length
  late : ∀ (i k c : Nat), i < pl → ord[i]? = some k → c ∈ kids ab k → ∃ j, i < j ∧ ord[j]? = some c
theorem Tree.bfs0 (T : Tree ab r rk) : Bfs ab r [r] 0 where
  nd := by simp
  lt := by intro k hk; rw [List.mem_singleton] at hk; subst hk; exact T.rlt
  eq := by simp
  le := Nat.zero_le _
  late := by intro i k c h; omega
theorem Bfs.len {ord : List Nat} {pl : Nat} (B : Bfs ab r ord pl) : ord.length ≤ ab.length := by
  have h := B.nd.length_le_of_subset (l₂ := List.range ab.length) fun k hk => List.mem_range.mpr (B.lt k hk)
  rw [List.length_range] at h
  exact h
theorem Bfs.step (T : Tree ab r rk) {ord : List Nat} {pl k : Nat} (B : Bfs ab r ord pl) (hk : ord[pl]? = some k) : Bfs ab r (ord ++ kids ab k) (pl + 1) := by
  have hlt : pl < ord.length := (List.getElem?_eq_some_iff.mp hk).1
  refine ⟨?_, ?_, ?_, ?_, ?_⟩
  · rw [List.nodup_append]
    refine ⟨B.nd, kids_nodup ab k, fun c hc c' hc' e => ?_⟩
    subst e
    have hp := mem_kids.mp hc'
    rw [B.eq] at hc
    rcases List.mem_cons.mp hc with e | hc
    · subst e; rw [T.root] at hp; cases hp
    · obtain ⟨k', hk', hc2⟩ := List.mem_flatMap.mp hc
      have e : k' = k := by
        have h2 := mem_kids.mp hc2
        rw [hp] at h2
        exact (Option.some.inj (Option.some.inj h2)).symm
      subst e
      obtain ⟨i, hi⟩ := List.mem_iff_getElem?.mp hk'
      have hil : i < pl := by
        have := (List.getElem?_eq_some_iff.mp hi).1
        rw [List.length_take] at this
        omega
      rw [List.getElem?_take_of_lt hil] at hi
      have h3 : i < ord.length := by omega
      rw [List.getElem?_eq_getElem h3] at hi
      rw [List.getElem?_eq_getElem hlt] at hk
      have h4 : ord[i] = ord[pl] := by rw [Option.some.inj hi, Option.some.inj hk]
      have := (List.getElem_inj B.nd).mp h4
      omega
  · intro c hc
    rcases List.mem_append.mp hc with h | h
    · exact B.lt c h
    · exact kids_lt h
  · have e : (ord ++ kids ab k).take (pl + 1) = ord.take pl ++ [k] := by
      rw [List.take_append_of_le_length (by omega), List.take_add_one, hk]
      rfl
    rw [e, List.flatMap_append]
    have e2 : [k].flatMap (kids ab) = kids ab k := by simp
    rw [e2]
    have e3 := B.eq
    rw [← List.cons_append, ← e3]
  · rw [List.length_append]; omega
  · intro i k' c hi he hc
    by_cases hip : i < pl
    · have h3 : i < ord.length := by omega
      rw [List.getElem?_append_left h3] at he
      obtain ⟨j, hj, hjc⟩ := B.late i k' c hip he hc
      exact ⟨j, hj, by rw [List.getElem?_append_left (List.getElem?_eq_some_iff.mp hjc).1]; exact hjc⟩
    · have hie : i = pl := by omega
      subst hie
      rw [List.getElem?_append_left hlt, hk] at he
      cases he
      obtain ⟨j, hj⟩ := List.mem_iff_getElem?.mp hc
      refine ⟨ord.length + j, by omega, ?_⟩
      rw [List.getElem?_append_right (by omega)]
      rw [Nat.add_sub_cancel_left]
      exact hj
theorem Bfs.all (T : Tree ab r rk) {ord : List Nat} (B : Bfs ab r ord ord.length) : ∀ (d j : Nat), rk j ≤ d → j < ab.length → j ∈ ord
  | d, j, hd, hj => by
    cases q : ab[j] with
    | none =>
      have := T.only j (by rw [List.getElem?_eq_getElem hj, q])
      subst this
      rw [B.eq]
      exact List.mem_cons_self
    | some p =>
      have hp : ab[j]? = some (some p) := by rw [List.getElem?_eq_getElem hj, q]
      obtain ⟨hpl, hr⟩ := T.up j p hp
      have hm : p ∈ ord := by
        match d, hd with
        | 0, hd => omega
        | d + 1, hd => exact Bfs.all T B d p (by omega) hpl
      obtain ⟨i, hi⟩ := List.mem_iff_getElem?.mp hm
      obtain ⟨j', _, hj'⟩ := B.late i p j (List.getElem?_eq_some_iff.mp hi).1 hi (mem_kids.mpr hp)
      exact List.mem_iff_getElem?.mpr ⟨j', hj'⟩
theorem Bfs.whole (T : Tree ab r rk) {ord : List Nat} (B : Bfs ab r ord ord.length) : ord.length = ab.length := by
  have h1 := B.len
  have h2 := List.nodup_range.length_le_of_subset (l₁ := List.range ab.length) (l₂ := ord) fun j hj => Bfs.all T B _ j (Nat.le_refl _) (List.mem_range.mp hj)
  rw [List.length_range] at h2
  omega

structure Filled (ab : Ab) (ord : List Nat) (fs : List Tx) (i : Nat) : Prop where
  len : fs.length = ab.length
  done : ∀ (j k : Nat), ord.length - i ≤ j → ord[j]? = some k → fs[k]? = some (fm ab k)
theorem Filled.kid {ord : List Nat} {fs : List Tx} {i k c : Nat} (B : Bfs ab r ord ord.length) (F : Filled ab ord fs i) (hi : i < ord.length) (hk : ord[ord.length - 1 - i]? = some k) (hc : c ∈ kids ab k) : fs[c]? = some (fm ab c) := by
  obtain ⟨j, hj, hjc⟩ := B.late _ k c (by omega) hk hc
  exact F.done j c (by omega) hjc
theorem Filled.step (T : Tree ab r rk) {ord : List Nat} {fs : List Tx} {i k : Nat} (B : Bfs ab r ord ord.length) (F : Filled ab ord fs i) (hi : i < ord.length) (hk : ord[ord.length - 1 - i]? = some k) {g : List Tx} (hg : g = (kids ab k).map (fm ab)) :
    Filled ab ord (fs.set k (brk (srt g).flatten)) (i + 1) := by
  have hkl : k < ab.length := B.lt k (List.mem_iff_getElem?.mpr ⟨_, hk⟩)
  refine ⟨by rw [List.length_set]; exact F.len, fun j k' hj hk' => ?_⟩
  rw [List.getElem?_set]
  by_cases e : k = k'
  · subst e
    rw [if_pos rfl, if_pos (by rw [F.len]; exact hkl), T.fm_eq hkl, hg]
  · rw [if_neg e]
    refine F.done j k' ?_ hk'
    by_cases h : ord.length - i ≤ j
    · exact h
    · exfalso
      have : j = ord.length - 1 - i := by omega
      subst this
      rw [hk] at hk'
      exact e (Option.some.inj hk')
end

structure Up (ab : Ab) : Prop where
  root : ab[0]? = some none
  up : ∀ (j : Nat), 0 < j → j < ab.length → ∃ p, ab[j]? = some (some p) ∧ p < j
theorem up1 : Up [none] := ⟨rfl, fun j h1 h2 => by simp at h2; omega⟩
theorem Up.pos {ab : Ab} (U : Up ab) : 0 < ab.length := (List.getElem?_eq_some_iff.mp U.root).1
theorem Up.snoc {ab : Ab} (U : Up ab) {p : Nat} (h : p < ab.length) : Up (ab ++ [some p]) := by
  refine ⟨by rw [List.getElem?_append_left U.pos]; exact U.root, fun j h1 h2 => ?_⟩
  rw [List.length_append, List.length_singleton] at h2
  by_cases e : j < ab.length
  · rw [List.getElem?_append_left e]; exact U.up j h1 e
  · have : j = ab.length := by omega
    subst this
    exact ⟨p, by rw [List.getElem?_append_right (Nat.le_refl _), Nat.sub_self]; rfl, h⟩
theorem Up.take {ab : Ab} (U : Up ab) {n : Nat} (h : 0 < n) : Up (ab.take n) := by
  refine ⟨by rw [List.getElem?_take_of_lt h]; exact U.root, fun j h1 h2 => ?_⟩
  rw [List.length_take] at h2
  rw [List.getElem?_take_of_lt (by omega)]
  exact U.up j h1 (by omega)
theorem Up.tree {ab : Ab} (U : Up ab) : Tree ab 0 id where
  root := U.root
  only := by
    intro j hj
    by_cases h : 0 < j
    · obtain ⟨p, hp, _⟩ := U.up j h (List.getElem?_eq_some_iff.mp hj).1
      rw [hp] at hj; cases hj
    · omega
  up := by
    intro j p hj
    have hl := (List.getElem?_eq_some_iff.mp hj).1
    by_cases h : 0 < j
    · obtain ⟨q, hq, hlt⟩ := U.up j h hl
      rw [hq] at hj
      cases hj
      exact ⟨by omega, hlt⟩
    · have : j = 0 := by omega
      subst this
      rw [U.root] at hj; cases hj
  low := fun j h => h
theorem perm_ins {nm : List Nat} {k i : Nat} (h : nm.Perm (List.range k)) : (nm.take i ++ k :: nm.drop i).Perm (List.range (k + 1)) := by
  refine List.perm_middle.trans ?_
  rw [List.take_append_drop, List.range_succ]
  exact (h.cons k).trans (List.perm_append_singleton k _).symm
structure Called (ab : Ab) (nm : List Nat) (md : Ab) (i : Nat) : Prop where
  len : md.length = ab.length
  done : ∀ (j k : Nat), j < i → nm[j]? = some k → md[k]? = some ((ab[j]?.getD none).map fun p => nm.getD p 0)
  rest : ∀ (j k : Nat), i ≤ j → nm[j]? = some k → md[k]? = some none
theorem Called.skip {ab : Ab} {nm : List Nat} {md : Ab} {i : Nat} (C : Called ab nm md i) (h : ab[i]? = some none) : Called ab nm md (i + 1) where
  len := C.len
  done := by
    intro j k hj hk
    by_cases e : j < i
    · exact C.done j k e hk
    · have : j = i := by omega
      subst this
      rw [C.rest j k (Nat.le_refl _) hk, h]
      rfl
  rest := fun j k hj hk => C.rest j k (by omega) hk
theorem Called.step {ab : Ab} {nm : List Nat} {md : Ab} {i p k : Nat} (hp : nm.Perm (List.range ab.length)) (C : Called ab nm md i) (h : ab[i]? = some (some p)) (hk : nm[i]? = some k) : Called ab nm (md.set k (some (nm.getD p 0))) (i + 1) := by
  have nd : nm.Nodup := hp.nodup_iff.mpr List.nodup_range
  have hkl : k < ab.length := List.mem_range.mp (hp.mem_iff.mp (List.mem_iff_getElem?.mpr ⟨i, hk⟩))
  have ne : ∀ (j k' : Nat), j ≠ i → nm[j]? = some k' → k ≠ k' := by
    intro j k' hj hk' e
    subst e
    obtain ⟨h1, e1⟩ := List.getElem?_eq_some_iff.mp hk
    obtain ⟨h2, e2⟩ := List.getElem?_eq_some_iff.mp hk'
    exact hj ((List.getElem_inj nd).mp (e2.trans e1.symm))
  refine ⟨by rw [List.length_set]; exact C.len, fun j k' hj hk' => ?_, fun j k' hj hk' => ?_⟩
  · rw [List.getElem?_set]
    by_cases e : j = i
    · subst e
      rw [hk] at hk'
      cases hk'
      rw [if_pos rfl, if_pos (by rw [C.len]; exact hkl), h]
      rfl
    · rw [if_neg (ne j k' e hk')]
      exact C.done j k' (by omega) hk'
  · rw [List.getElem?_set, if_neg (ne j k' (by omega) hk')]
    exact C.rest j k' (by omega) hk'
theorem Called.renum {ab : Ab} {nm : List Nat} {md : Ab} (hp : nm.Perm (List.range ab.length)) (C : Called ab nm md ab.length) (hpar : ∀ (j p : Nat), ab[j]? = some (some p) → p < ab.length) : Renum ab md nm where
  len := C.len
  perm := hp
  par := hpar
  at' := by
    intro j k hk
    refine C.done j k ?_ hk
    have := (List.getElem?_eq_some_iff.mp hk).1
    rw [hp.length_eq, List.length_range] at this
    exact this
theorem Renum.tree {ab ab' : Ab} {nm : List Nat} {r : Nat} {rk : Nat → Nat} (R : Renum ab ab' nm) (T : Tree ab r rk) : Tree ab' (nm.getD r 0) (fun k => rk (nm.idxOf k)) := by
  have here : ∀ (k : Nat), k < ab'.length → ∃ j, j < ab.length ∧ nm[j]? = some k ∧ nm.getD j 0 = k ∧ nm.idxOf k = j := by
    intro k hk
    have h1 : k ∈ nm := by rw [R.perm.mem_iff, List.mem_range, ← R.len]; exact hk
    obtain ⟨j, hj, e⟩ := List.getElem_of_mem h1
    refine ⟨j, by rw [← R.nlen]; exact hj, by rw [List.getElem?_eq_getElem hj, e], by rw [getD_lt hj, e], ?_⟩
    rw [← e]
    exact R.nd.idxOf_getElem j hj
  have idx : ∀ (p : Nat), p < ab.length → nm.idxOf (nm.getD p 0) = p ∧ nm.getD p 0 < ab'.length := by
    intro p hp
    have hp' : p < nm.length := by rw [R.nlen]; exact hp
    rw [getD_lt hp']
    refine ⟨R.nd.idxOf_getElem p hp', ?_⟩
    rw [R.len]
    exact List.mem_range.mp (R.perm.mem_iff.mp (List.getElem_mem hp'))
  refine ⟨?_, fun k hk => ?_, fun k q hk => ?_, fun k hk => ?_⟩
  · have hr : r < nm.length := by rw [R.nlen]; exact T.rlt
    have := R.at' r (nm.getD r 0) (by rw [getD_lt hr]; exact List.getElem?_eq_getElem hr)
    rw [T.root] at this
    exact this
  · obtain ⟨j, hj, e1, e2, e3⟩ := here k (List.getElem?_eq_some_iff.mp hk).1
    have h := R.at' j k e1
    rw [hk, List.getElem?_eq_getElem hj, Option.getD_some] at h
    cases q : ab[j] with
    | none =>
      have := T.only j (by rw [List.getElem?_eq_getElem hj, q])
      subst this
      exact e2.symm
    | some p => rw [q] at h; cases h
  · obtain ⟨j, hj, e1, e2, e3⟩ := here k (List.getElem?_eq_some_iff.mp hk).1
    have h := R.at' j k e1
    rw [hk, List.getElem?_eq_getElem hj, Option.getD_some] at h
    cases q' : ab[j] with
    | none => rw [q'] at h; cases h
    | some p =>
      rw [q'] at h
      have e4 : q = nm.getD p 0 := Option.some.inj (Option.some.inj h)
      obtain ⟨h1, h2⟩ := T.up j p (by rw [List.getElem?_eq_getElem hj, q'])
      obtain ⟨h3, h4⟩ := idx p h1
      subst e4
      refine ⟨h4, ?_⟩
      show rk (nm.idxOf (nm.getD p 0)) < rk (nm.idxOf k)
      rw [h3, e3]
      exact h2
  · obtain ⟨j, hj, e1, e2, e3⟩ := here k hk
    show rk (nm.idxOf k) < _
    rw [e3, R.len]
    exact T.low j hj
theorem Renum.fm {ab ab' : Ab} {nm : List Nat} (R : Renum ab ab' nm) {k : Nat} (hk : k < ab.length) : fm ab' (nm.getD k 0) = fm ab k := by
  unfold KM.fm
  rw [R.len]
  exact R.form _ k hk
end KM


set_option Elab.async false
set_option linter.all false
set_option maxRecDepth 100000
namespace L2
open PySem PySem.Spec PyProof.Rows

section
variable {X : Cx} {pins : List (Addr × Obj)} {σ : St} {H : Hp} {s : Shared} {h' : Heap}
theorem Inv.turnedL {t' : Nat} {fp : List Addr} (I : Inv X pins σ H s) (hf : ∀ b ∈ fp, FpOk X pins H b)
    (k : ∀ b o, b ∉ fp → s.heap.get? b = some o → h'.get? b = some o) : Inv X pins σ H { s with heap := h', toks := t' } := by
  have nit : ∀ b u, H b = some u → b ∉ fp := fun b u e z => by rw [(hf b z).1] at e; cases e
  refine I.step (g' := s.gens) (d' := s.drawn) (ch := fp) (fun b hb => ?_) (fun b o _ _ hc e _ => k b o hc e) (fun b o _ _ hc e _ => ⟨o.slots, k b o hc e⟩) (fun _ _ _ _ n => n)
    (fun b o hc e => ⟨o, k b o hc e⟩) (fun _ _ e => e) (fun _ _ _ e => e) (fun b ps e => ⟨#[], by rw [e]; simp⟩) (fun m hm => ?_) (fun b u e => ?_) I.bare
  · obtain ⟨_, f1, _, f3, f4, f5⟩ := hf b hb
    exact ⟨f3, f1, f4, f5⟩
  · obtain ⟨o, es, ep, ho, r⟩ := hm
    exact ⟨o, es, ep, k _ o (fun z => (hf _ z).2.1 rfl) ho, r⟩
  · refine (I.hok b u e).stay (fun c v hc q => k c v ?_ q) (fun _ q => q) fun _ _ q => q
    rcases hc with z | z
    · rw [z]; exact nit b u e
    · exact nit c _ z
theorem Inv.turnLay {t' : Nat} {fp : List Addr} {p : Addr} {o : HO} (I : Inv X pins σ H s) (hf : ∀ b ∈ fp, FpOk X pins H b)
    (k : ∀ b ob, b ∉ fp → s.heap.get? b = some ob → h'.get? b = some ob) (hp : s.heap.objs.size ≤ p) (new : ObjOk X.prog X.w (upd H p o) h' p o) : Inv X pins σ (upd H p o) { s with heap := h', toks := t' } := by
  have hn : H p = none := I.hok.fresh hp
  have nit : ∀ b u, H b = some u → b ∉ fp := fun b u e z => by rw [(hf b z).1] at e; cases e
  have up : ∀ b u, H b = some u → upd H p o b = some u := fun b u e => by rw [upd_ne (ne_of_none e hn)]; exact e
  refine I.step (g' := s.gens) (d' := s.drawn) (ch := fp) (fun b hb => ?_) (fun b ob _ _ hc e _ => k b ob hc e) (fun b ob _ _ hc e _ => ⟨ob.slots, k b ob hc e⟩) (fun b ob _ e n => ?_)
    (fun b ob hc e => ⟨ob, k b ob hc e⟩) (fun b xs e => up b _ e) (fun b ob u e => up b _ e) (fun b ps e => ⟨#[], by rw [up b _ e]; simp⟩) (fun m hm => ?_) (fun b u e => ?_) I.bare
  · obtain ⟨_, f1, _, f3, f4, f5⟩ := hf b hb
    exact ⟨f3, f1, f4, f5⟩
  · rw [upd_ne (Nat.ne_of_lt (Nat.lt_of_lt_of_le (Heap.lt_size e) hp))]
    exact n
  · obtain ⟨ob, es, ep, ho, r⟩ := hm
    exact ⟨ob, es, ep, k _ ob (fun z => (hf _ z).2.1 rfl) ho, r⟩
  · by_cases hb : b = p
    · subst hb
      rw [upd_same] at e
      cases e
      exact new
    · rw [upd_ne hb] at e
      refine (I.hok b u e).stay (fun c v hc q => k c v ?_ q) (fun c q => up c _ q) fun c xs q => up c _ q
      rcases hc with z | z
      · rw [z]; exact nit b u e
      · exact nit c _ z
end

def Ite (K : PySem.W.Frag) (a : Addr) : It :=
  ⟨fun i H => ∃ xs x, SqL K H a xs ∧ xs[i]? = some x,
   fun i H x H' => ∃ p y, x = .ref p ∧ H p = none ∧ H' = upd H p (.tup [.int i, y]) ∧ ∀ xs, SqL K H a xs → xs[i]? = some y,
   fun i H => ∃ xs, SqL K H a xs ∧ xs.length ≤ i⟩
theorem turn_enum {P : Program} {w : World} {K : PySem.W.Frag} {elts : List Expr} {x1 : Nat} {tpos : Pos} (a e it : Addr) (hne : e ≠ it) :
    Turn P w K (.Tuple elts x1 tpos) (Ite K a) [e, it] e (fun i h => (∃ old, IsEnum h e it (i : Int) old) ∧ h.IsListIter it a i) where
  mem := by simp
  obj := fun i h st b hb => by
    rcases List.mem_cons.mp hb with e' | hb
    · subst e'
      obtain ⟨⟨old, q⟩, _⟩ := st
      exact ⟨_, q, fun v z => by cases z⟩
    · have e' : b = it := by simpa using hb
      subst e'
      obtain ⟨_, o, q, c, d⟩ := st
      exact ⟨o, q, fun v z => by rw [d] at z; cases z⟩
  keep := fun i h h' st k => ⟨let ⟨old, q⟩ := st.1; ⟨old, k e (by simp) _ q⟩, st.2.at fun o q => k it (by simp) o q⟩
  item := by
    intro X hP hw hK hc i pins s σ H E I hf st hg
    subst hP hw hK
    obtain ⟨xs, x, hq, hx⟩ := hg
    obtain ⟨⟨old, he⟩, hit⟩ := st
    obtain ⟨its, rv, p, hz⟩ := I.list hq
    obtain ⟨u, hu, ru⟩ := rv.get hx
    refine wpAny_pyNext_enum_item he hit p.isList (x := u) (by simpa using hu) hne fun h1 heo hit1 ht hsz hk => ⟨.ref s.heap.objs.size, rfl, ?_⟩
    refine wpAny_letOwnedTupleGo_enum heo fun h2 he2 hs2 => ?_
    replace hs2 : Heap.SameBut e h1 h2 := hs2
    have hel : e < s.heap.objs.size := Heap.lt_size he
    have ht2 : h2.get? s.heap.objs.size = some { cls := .type "tuple", data := .seq #[.int i s.toks, u] } := (hs2.2 _ (Nat.ne_of_gt hel)).trans ht
    have hn : H s.heap.objs.size = none := I.hok.fresh (Nat.le_refl _)
    refine ⟨.ref s.heap.objs.size, upd H s.heap.objs.size (.tup [.int i, x]), I.turnLay (t' := s.toks + 1) hf (fun b o hb q => ?_) (Nat.le_refl _) ?_, rfl,
      ⟨_, x, rfl, hn, rfl, fun ys hy => by rw [I.list_inj hy hq]; exact hx⟩, ⟨⟨u, ?_⟩, ?_⟩, fun b hb => ?_⟩
    · have hbe : b ≠ e := fun z => hb (by simp [z])
      have hbi : b ≠ it := fun z => hb (by simp [z])
      exact (hs2.2 b hbe).trans (hk b o hbe hbi q)
    · exact ⟨by show 2 ≤ sizeLine; decide, [.int i s.toks, u], .cons ⟨_, rfl⟩ (.cons ru .nil), _, ht2, rfl, 0, rfl⟩
    · have e2 : ((i + 1 : Nat) : Int) = (i : Int) + 1 := by omega
      rw [e2]
      exact he2
    · exact hit1.extBut hs2.extBut (Ne.symm hne)
    · rw [upd_ne]
      · exact (hf b hb).1
      · obtain ⟨o, q, _⟩ : ∃ o, s.heap.get? b = some o ∧ True := by
          rcases List.mem_cons.mp hb with e' | hb
          · subst e'; exact ⟨_, he, trivial⟩
          · have e' : b = it := by simpa using hb
            subst e'
            obtain ⟨o, q, _⟩ := id hit
            exact ⟨o, q, trivial⟩
        exact Nat.ne_of_lt (Heap.lt_size q)
  done := by
    intro X hP hw hK hc i pins s σ H E I hf st hg
    subst hP hw hK
    obtain ⟨xs, hq, hx⟩ := hg
    obtain ⟨⟨old, he⟩, hit⟩ := st
    obtain ⟨its, rv, p, hz⟩ := I.list hq
    have hl := rv.length
    exact wpAny_pyNext_enum_end (I.ok.hd hc) he hit p.isList (by simp; omega) fun h1 eb => ⟨rfl, I.turnedL (t' := s.toks) hf fun b o hb q => eb b o (fun z => hb (by simp [z])) q⟩
  self := fun A i s Q E st h => let ⟨⟨old, he⟩, _⟩ := st; wpAny_pyIter_enum he h
def iEnum (K : PySem.W.Frag) (ta : TA) : TI := fun σ H R => ta σ H fun vs H1 => ∃ a, vs = [.ref a] ∧ (∃ xs, SqL K H1 a xs) ∧ R (Ite K a) H1
section
variable {X : Cx}
theorem pi_enum {elts : List Expr} {x1 : Nat} {tpos : Pos} {l : Expr} {ta : TA} {p pos : Pos} (hg : Gl X "enumerate") (hm : X.mg "enumerate" = none) (ha : PA X [l] ta) (hs : starEach [l] X.env = [(false, eval l X.env)] := by rfl) :
    PI X (.Tuple elts x1 tpos) (.Call (.Name "enumerate" p) [l] [] pos) (iEnum X.K ta) := by
  intro pins s σ H R I h
  refine Call_ (ld_blt I hg hm boot_enumerate (PyProof.Rows.callWith_type1 (thn (ha pos pins s σ H _ I h) fun us s1 ⟨vs, H1, I1, r1, q1⟩ => ?_) hs rfl))
  obtain ⟨a, e, ⟨xs, hq⟩, q⟩ := q1
  subst e
  obtain ⟨u, rfl, rx⟩ := vals1 r1
  cases rx
  obtain ⟨its, rv, pl, hz⟩ := I1.list hq
  refine call_enumerate_list pl.isList fun h1 he hit hsz hk => wpAny_pyIter_enum he ?_
  have I2 : Inv X pins σ H1 { s1 with heap := h1 } := I1.kept (t' := s1.toks) hk
  refine ⟨s1.heap.objs.size + 1, [s1.heap.objs.size + 1, s1.heap.objs.size], _, Ite X.K a, H1, rfl, I2, turn_enum a _ _ (Nat.succ_ne_self _), ⟨⟨.none, he⟩, hit⟩, fun b hb => ?_, q⟩
  rcases List.mem_cons.mp hb with e | hb
  · subst e
    exact I1.fpOk (Nat.le_succ _) (I1.hok.fresh (Nat.le_succ _))
  · have e : b = s1.heap.objs.size := by simpa using hb
    subst e
    exact I1.fpOk (Nat.le_refl _) (I1.hok.fresh (Nat.le_refl _))
end
theorem for_enum {K : PySem.W.Frag} {a : Addr} {xs : List V} {g : TG} {tb : TS} {D : Ends} {σ : St} {H : Hp} (Pv : Nat → St → Hp → Prop) (h0 : Pv 0 σ H) (hl : ∀ i σ H, i ≤ xs.length → Pv i σ H → SqL K H a xs)
    (hs : ∀ i x p σ H, xs[i]? = some x → Pv i σ H → H p = none → g (.ref p) σ (upd H p (.tup [.int i, x])) fun σ2 H2 => tb { D with nx := Pv (i + 1), ct := Pv (i + 1), bk := D.nx } σ2 H2) (hd : ∀ σ H, Pv xs.length σ H → D.nx σ H) :
    ∃ W : Nat → Nat → St → Hp → Prop, (∃ m, W 0 m σ H) ∧ ∀ i m σ H, W i m σ H →
      ((Ite K a).stop i H ∧ D.nx σ H) ∨ ((Ite K a).go i H ∧ ∃ N : St → Hp → Prop, (∀ σ' H', N σ' H' → ∃ m', m' < m ∧ W (i + 1) m' σ' H') ∧ ∀ x H', (Ite K a).yld i H x H' → g x σ H' fun σ2 H2 => tb { D with nx := N, ct := N, bk := D.nx } σ2 H2) := by
  refine ⟨fun i m σ H => m = xs.length - i ∧ i ≤ xs.length ∧ Pv i σ H, ⟨xs.length, by simp, Nat.zero_le _, h0⟩, ?_⟩
  rintro i m σ H ⟨rfl, hi, p⟩
  have q := hl i σ H hi p
  by_cases hlt : i < xs.length
  · refine .inr ⟨⟨xs, xs[i], q, by simp [hlt]⟩, Pv (i + 1), fun σ' H' p' => ⟨xs.length - (i + 1), by omega, rfl, hlt, p'⟩, fun x H' y => ?_⟩
    obtain ⟨pp, z, rfl, hn, rfl, hz⟩ := y
    exact hs i z pp σ H (hz xs q) p hn
  · have e : i = xs.length := by omega
    subst e
    exact .inl ⟨⟨xs, q, Nat.le_refl _⟩, hd σ H p⟩

def Itv (K : PySem.W.Frag) (a : Addr) (n : Nat) : It :=
  ⟨fun i H => i < n ∧ ∃ xs x, SqL K H a xs ∧ xs[n - 1 - i]? = some x, fun i H x H' => H' = H ∧ ∀ xs, SqL K H a xs → xs[n - 1 - i]? = some x, fun i _ => i = n⟩
theorem turn_rev {P : Program} {w : World} {K : PySem.W.Frag} {tg : Expr} (a it : Addr) (n : Nat) : Turn P w K tg (Itv K a n) [it] it (fun i h => h.IsRevIter it a ((n : Int) - 1 - (i : Nat))) where
  mem := by simp
  obj := fun i h st b hb => by
    have e : b = it := by simpa using hb
    subst e
    obtain ⟨o, e, c, d⟩ := st
    exact ⟨o, e, fun v z => by rw [d] at z; cases z⟩
  keep := fun i h h' st k => st.at fun o e => k it (by simp) o e
  item := by
    intro X hP hw hK hc i pins s σ H E I hf st hg
    subst hP hw hK
    obtain ⟨hlt, xs, x, hq, hx⟩ := hg
    obtain ⟨its, rv, p, hz⟩ := I.list hq
    obtain ⟨u, hu, ru⟩ := rv.get hx
    have e1 : (n : Int) - 1 - (i : Nat) = ((n - 1 - i : Nat) : Int) := by omega
    have st' := st
    rw [e1] at st'
    refine wpAny_pyNext_rev_item st' p.isList (x := u) (by simpa using hu) fun h' st2 sb => ?_
    have I1 : Inv X pins σ H { s with heap := h' } := I.turnedL (t' := s.toks) hf fun b o hb e => (sb.2 b (fun z => hb (by simp [z]))).trans e
    have e2 : ((n - 1 - i : Nat) : Int) - 1 = (n : Int) - 1 - ((i + 1 : Nat) : Int) := by omega
    rw [e2] at st2
    obtain ⟨o, e, c, d⟩ := id st2
    exact ⟨u, rfl, go_of (s := { s with heap := h' }) e c d (by decide) ⟨x, H, I1, ru, ⟨rfl, fun ys hy => by rw [I.list_inj hy hq]; exact hx⟩, st2, fun b hb => (hf b hb).1⟩⟩
  done := by
    intro X hP hw hK hc i pins s σ H E I hf st hg
    subst hP hw hK
    have e : i = n := hg
    subst e
    have e1 : (i : Int) - 1 - (i : Nat) = -1 := by omega
    rw [e1] at st
    exact wpAny_pyNext_rev_end (I.ok.hd hc) st fun h' eb => ⟨rfl, I.turnedL (t' := s.toks) hf fun b o hb q => eb b o (fun z => hb (by simp [z])) q⟩
  self := fun _ _ _ _ _ st h => wpAny_pyIter_revIter st h
def iRev (K : PySem.W.Frag) (ta : TA) : TI := fun σ H R => ta σ H fun vs H1 => ∃ a xs, vs = [.ref a] ∧ SqL K H1 a xs ∧ R (Itv K a xs.length) H1
section
variable {X : Cx} {tg : Expr}
theorem pi_rev {l : Expr} {ta : TA} {p pos : Pos} (hg : Gl X "reversed") (hm : X.mg "reversed" = none) (ha : PA X [l] ta) (hs : starEach [l] X.env = [(false, eval l X.env)] := by rfl) :
    PI X tg (.Call (.Name "reversed" p) [l] [] pos) (iRev X.K ta) := by
  intro pins s σ H R I h
  refine Call_ (ld_blt I hg hm boot_reversed (PyProof.Rows.callWith_type1 (thn (ha pos pins s σ H _ I h) fun us s1 ⟨vs, H1, I1, r1, q1⟩ => ?_) hs rfl))
  obtain ⟨a, xs, e, hq, q⟩ := q1
  subst e
  obtain ⟨u, rfl, rx⟩ := vals1 r1
  cases rx
  obtain ⟨its, rv, pl, hz⟩ := I1.list hq
  have hl := rv.length
  have st : (s1.heap.push (revObj a ((its.toArray.size : Int) - 1))).IsRevIter s1.heap.objs.size a ((xs.length : Int) - 1 - ((0 : Nat) : Int)) := by
    refine ⟨_, Heap.get?_push_size _ rfl, rfl, ?_⟩
    have e : (xs.length : Int) - 1 - ((0 : Nat) : Int) = (its.toArray.size : Int) - 1 := by rw [List.size_toArray]; omega
    rw [e]
    rfl
  refine call_reversed_list pl.isList (wpAny_pyIter_revIter st ?_)
  have I2 : Inv X pins σ H1 { s1 with heap := s1.heap.push (revObj a ((its.toArray.size : Int) - 1)) } := I1.kept (t' := s1.toks) fun b o e => Heap.get?_push_of_some _ e
  refine ⟨s1.heap.objs.size, [s1.heap.objs.size], _, Itv X.K a xs.length, H1, rfl, I2, turn_rev a _ xs.length, st, fun b hb => ?_, q⟩
  have e : b = s1.heap.objs.size := by simpa using hb
  subst e
  exact I1.fpOk (Nat.le_refl _) (I1.hok.fresh (Nat.le_refl _))
end
theorem for_rev {K : PySem.W.Frag} {a : Addr} {xs : List V} {g : TG} {tb : TS} {D : Ends} {σ : St} {H : Hp} (Pv : Nat → St → Hp → Prop) (h0 : Pv 0 σ H) (hl : ∀ i σ H, i ≤ xs.length → Pv i σ H → SqL K H a xs)
    (hs : ∀ i x σ H, i < xs.length → xs[xs.length - 1 - i]? = some x → Pv i σ H → g x σ H fun σ2 H2 => tb { D with nx := Pv (i + 1), ct := Pv (i + 1), bk := D.nx } σ2 H2) (hd : ∀ σ H, Pv xs.length σ H → D.nx σ H) :
    ∃ W : Nat → Nat → St → Hp → Prop, (∃ m, W 0 m σ H) ∧ ∀ i m σ H, W i m σ H →
      ((Itv K a xs.length).stop i H ∧ D.nx σ H) ∨ ((Itv K a xs.length).go i H ∧ ∃ N : St → Hp → Prop, (∀ σ' H', N σ' H' → ∃ m', m' < m ∧ W (i + 1) m' σ' H') ∧ ∀ x H', (Itv K a xs.length).yld i H x H' → g x σ H' fun σ2 H2 => tb { D with nx := N, ct := N, bk := D.nx } σ2 H2) := by
  refine ⟨fun i m σ H => m = xs.length - i ∧ i ≤ xs.length ∧ Pv i σ H, ⟨xs.length, by simp, Nat.zero_le _, h0⟩, ?_⟩
  rintro i m σ H ⟨rfl, hi, p⟩
  have q := hl i σ H hi p
  by_cases hlt : i < xs.length
  · refine .inr ⟨⟨hlt, xs, xs[xs.length - 1 - i], q, List.getElem?_eq_getElem (by omega)⟩, Pv (i + 1), fun σ' H' p' => ⟨xs.length - (i + 1), by omega, rfl, hlt, p'⟩, fun x H' y => ?_⟩
    obtain ⟨e, y⟩ := y
    subst e
    exact hs i x σ _ hlt (y xs q) p
  · have e : i = xs.length := by omega
    subst e
    exact .inl ⟨rfl, hd σ H p⟩

theorem strs_of : ∀ {ss : List Str} {us : List Value}, Vals (ss.map V.str) us → StrsAre us ss
  | [], _, .nil => .nil
  | x :: ss, _, .cons r t => by
    obtain ⟨tk, rfl⟩ := r
    exact .cons x tk (strs_of t)
theorem vals_strs : ∀ {ss : List Str} {us : List Value}, StrsAre us ss → Vals (ss.map V.str) us
  | _, _, .nil => .nil
  | _, _, .cons x tk t => .cons ⟨tk, rfl⟩ (vals_strs t)
section
variable {X : Cx}
def rSortS (K : PySem.W.Frag) : List V → Hp → VK → Prop := fun xs H Q => ∃ p ss, xs = [.ref p] ∧ SqL K H p (ss.map V.str) ∧ ss.length < 64 ∧
  ∀ l ss', ss'.Perm ss → sortedS ss' = true → H l = none → Q (.ref l) (upd H l (.lst (ss'.map V.str)))
theorem call_sortedS : CallR X (.builtin "sorted") (rSortS X.K) := by
  intro pins s σ H xs us Q I r h
  obtain ⟨p, ss, rfl, hq, h64, q⟩ := h
  obtain ⟨u, rfl, rx⟩ := vals1 r
  cases rx
  obtain ⟨its, rv, pl, hz⟩ := I.list hq
  have hl := rv.length
  rw [List.length_map] at hl hz
  refine sorted_strs pl.isList (strs_of rv) (by omega) fun out ss' h1 h2 h3 => ?_
  obtain ⟨e, he⟩ := sortedAll_at s.heap its out
  refine ⟨.ref (s.heap.objs.size + 1), _, I.laid (t' := s.toks) (fun b o q => sortedAll_old q) (Nat.le_succ _) (o := .lst (ss'.map V.str)) ?_, rfl, q _ ss' h2 h3 (I.hok.fresh (Nat.le_succ _))⟩
  refine ⟨?_, out.toList, e, vals_strs h1, ?_⟩
  · rw [List.length_map, h2.length_eq]; exact hz
  · rw [Array.toArray_toList]; exact he
def rJoin (K : PySem.W.Frag) : V → List V → Hp → VK → Prop := fun x vs H Q => ∃ z p ss, x = .str z ∧ vs = [.ref p] ∧ SqL K H p (ss.map V.str) ∧ (ss.map (·.length)).sum + ss.length * z.length ≤ 16777216 ∧ Q (.str (Txt.join z ss)) H
theorem mt_join : MtR X "str.join" (rJoin X.K) := by
  intro pins s σ H x vs v us Q I rx rv h
  obtain ⟨z, p, ss, rfl, rfl, hq, hz, q⟩ := h
  obtain ⟨t, rfl⟩ := rx
  obtain ⟨u, rfl, ru⟩ := rv.one
  cases ru
  obtain ⟨its, r, pl, _⟩ := I.list hq
  exact join_list pl.isList (strs_of (by simpa using r)) hz fun t' k => ⟨.str _, H, I.tok k, ⟨_, rfl⟩, q⟩
def rInsert : V → List V → Hp → VK → Prop := fun x vs H Q => ∃ l i y xs, x = .ref l ∧ vs = [.int i, y] ∧ H l = some (.lst xs) ∧ 0 ≤ i ∧ i ≤ (xs.length : Int) ∧ xs.length < sizeLine ∧ Q .non (upd H l (.lst (xs.take i.toNat ++ y :: xs.drop i.toNat)))
theorem mt_insert : MtR X "list.insert" rInsert := by
  intro pins s σ H x vs v us Q I rx rv h
  obtain ⟨l, i, y, xs, rfl, rfl, hH, h0, h1, hz, q⟩ := h
  cases rx
  obtain ⟨u, w', rfl, ⟨t, rfl⟩, rw'⟩ := rv.two
  obtain ⟨z, its, n, r, hl, e⟩ := I.lstM hH
  have hn := line63
  refine call_meets F.slot_list_insert ⟨_, e, rfl⟩ F.entry_list_insert (F.args_list_insert_3 _ _ _)
    (AutoSeq1.list_insert_list_int_val_1 l its.toArray n i t w' (by rw [fitsIndex_both (by omega) (by omega)]; exact Bool.false_ne_true) (by rw [List.size_toArray]; omega)) ⟨e, ?_⟩
  refine ⟨.non, _, I.lset (its' := its.take i.toNat ++ w' :: its.drop i.toNat) hH e ?_ ((r.take i.toNat).append (.cons rw' (r.drop i.toNat))) ?_, rfl, q⟩
  · show (its.toArray.extract 0 (if i < 0 then (i + (its.toArray.size : Int)).toNat else min i.toNat its.toArray.size)).push w' ++ its.toArray.extract (if i < 0 then (i + (its.toArray.size : Int)).toNat else min i.toNat its.toArray.size) = _
    have em : (if i < 0 then (i + (its.toArray.size : Int)).toNat else min i.toNat its.toArray.size) = i.toNat := by
      rw [if_neg (by omega), List.size_toArray]
      omega
    rw [em, PySem.W.kl_ins_eq]
  · rw [List.length_append, List.length_cons, List.length_take, List.length_drop]
    omega
theorem eqV_self {x : V} (h : flatV x = true) : eqV x x = true := by
  cases x with
  | non => rfl
  | bl b => exact beq_self_eq_true b
  | int i => simp [eqV]
  | str y => simp [eqV]
  | byt b => exact absurd (show false = true from h) Bool.false_ne_true
  | flt b => exact absurd (show false = true from h) Bool.false_ne_true
  | ref a => exact absurd (show false = true from h) Bool.false_ne_true
  | ty n => exact absurd (show false = true from h) Bool.false_ne_true
def rIsi (K : PySem.W.Frag) : List V → Hp → VK → Prop := fun xs H Q => ∃ x T t b, xs = [x, .ty T] ∧ TyOf K H x t ∧ PySem.W.kitOne K t (.type T) = some b ∧ Q (.bl b) H
theorem call_isi : CallR X (.builtin "isinstance") (rIsi X.K) := by
  intro pins s σ H xs us Q I r h
  obtain ⟨x, T, t, b, rfl, ty, e, q⟩ := h
  obtain ⟨u, w', rfl, rx, rt⟩ := vals2 r
  cases (show w' = Value.type T from rt)
  exact isinst_ok I rx ty e fun tk => ⟨.bl b, H, I.tok tk, rfl, q⟩
end
end L2


set_option Elab.async false
set_option linter.all false
set_option maxRecDepth 100000
namespace L2
open PySem PySem.Spec PyProof.Rows

def compCx (X : Cx) (N' : List Str) (scope : Scope) (cl : List (Str × Addr)) (C : Addr) (s₀ : Shared) (H₀ : Hp) (fp : List Addr) : Cx where
  prog := X.prog
  w := X.w
  K := X.K
  mg := X.mg
  base := X.base
  A := X.A
  N := N'
  s₀ := s₀
  H₀ := H₀
  env := compEnvC scope cl C X.env
  outer := X.stack
  stack := X.stack
  ex := fp
  fn := fun _ => false
  calm := X.calm
  pn := []
  xe := fun _ _ => False
def outSt (js : List (Option Nat)) (σ : St) : St := js.map fun o => o.bind fun i => (σ[i]?).bind id
structure CompOk (X : Cx) (scope : Scope) (cl : List (Str × Addr)) (N' : List Str) (js : List (Option Nat)) : Prop where
  kind : scope.kind = .function
  nocell : ∀ y ∈ scope.names, y.2 ≠ .cell
  names : ∀ y ∈ scope.names, y.2 = .local → scope.names.lookup y.1 = some .local
  len : js.length = N'.length
  clos : closureFor scope X.env = pure cl
  cells : ∀ x c, cl.lookup x = some c → X.env.cells.lookup x = some c
  has : ∀ x, ((relabel scope X.env).names.lookup x = some .cell ∨ (relabel scope X.env).names.lookup x = some .free) → ∃ c, cl.lookup x = some c
  out : ∀ (j i : Nat), js[j]? = some (some i) → ∃ x, N'[j]? = some x ∧ X.N[i]? = some x ∧ X.env.scope.names.lookup x = some .cell ∧
    ((relabel scope X.env).names.lookup x = some .cell ∨ (relabel scope X.env).names.lookup x = some .free)
def PIf (X : Cx) (ifs : List Expr) (t : TT) : Prop :=
  ∀ (pins : List (Addr × Obj)) (s : Shared) (σ : St) (H : Hp) (Q : Bool → Hp → Prop), Inv X pins σ H s → t σ H Q →
    wpAny (model X.prog X.w) X.A (forIn ifs true fun c r => if r = true then do let ok ← isTrue c X.env (eval c X.env); pure (ForInStep.yield ok) else pure (ForInStep.yield r)) (TP X pins σ Q) X.xe s
def tAlways : TT := fun _ H Q => Q true H
theorem pif_nil {X : Cx} : PIf X [] tAlways := fun _ _ _ H _ I h => wpAny_tests_nil ⟨H, I, h⟩
theorem pif_one {X : Cx} {c : Expr} {t : TT} (h : PT X c t) : PIf X [c] t := fun pins s σ H Q I q => wpAny_tests_one (h pins s σ H Q I q)
def CompW (J : It) (js : List (Option Nat)) (g : TG) (ti : TT) (te : TE) (σ : St) (H1 : Hp) (Q : VK) : Prop :=
  ∀ D, H1 D = none → ∃ W : Nat → Nat → List V → St → Hp → Prop, (∃ m, W 0 m [] (outSt js σ) (upd H1 D (.lst []))) ∧ ∀ i m ys τ H, W i m ys τ H →
    (J.stop i H ∧ Q (.ref D) H) ∨ (J.go i H ∧ ∀ x H', J.yld i H x H' → g x τ H' fun τ2 H2 => ti τ2 H2 fun b H3 =>
      if b = true then te τ2 H3 fun y H4 => H4 D = some (.lst ys) ∧ ys.length < sizeLine ∧ ∃ m', m' < m ∧ W (i + 1) m' (ys ++ [y]) τ2 (upd H4 D (.lst (ys ++ [y])))
      else ∃ m', m' < m ∧ W (i + 1) m' ys τ2 H3)
def tComp (wi : TI) (js : List (Option Nat)) (g : TG) (ti : TT) (te : TE) : TE := fun σ H Q => wi σ H fun J H1 => CompW J js g ti te σ H1 Q

section
variable {X : Cx} {elt tg iter : Expr} {ifs : List Expr} {scope : Scope} {cl : List (Str × Addr)} {N' : List Str} {js : List (Option Nat)} {pos : Pos} {g : TG} {ti : TT} {te : TE}
theorem thnE {α : Type} {t : Sem α} {Q Q' : α → Shared → Prop} {M : Model} {A : Around} {E : Value → Shared → Prop} {s : Shared} (h : wpAny M A t Q (fun _ _ => False) s) (hQ : ∀ a s, Q a s → Q' a s) : wpAny M A t Q' E s := wpAny_mono h hQ fun _ _ x => x.elim

theorem comp_start {pins : List (Addr × Obj)} {σ : St} {H1 : Hp} {s₂ : Shared} {fp : List Addr} {C : Addr} {h₁ : Heap} {tk : Nat} (K : CompOk X scope cl N' js) (I : Inv X pins σ H1 s₂) (hf : ∀ b ∈ fp, FpOk X pins H1 b)
    (hfl : ∀ b ∈ fp, b < s₂.heap.objs.size) (hC : s₂.heap.objs.size < C) (old : ∀ b o, s₂.heap.get? b = some o → h₁.get? b = some o) {m : Str → Option Value} (hns : h₁.Ns C m)
    (acc : h₁.get? s₂.heap.objs.size = some { cls := .type "list", data := .seq ([] : List Value).toArray }) :
    Inv (compCx X N' scope cl C s₂ H1 fp) [] (outSt js σ) (upd H1 s₂.heap.objs.size (.lst [])) { s₂ with heap := h₁, toks := tk } := by
  have hD : H1 s₂.heap.objs.size = none := I.hok.fresh (Nat.le_refl _)
  have cellOld : ∀ x c, cl.lookup x = some c → c < s₂.heap.objs.size := fun x c e => by
    obtain ⟨v, o, ho, _⟩ := I.cell x c (K.cells x c e)
    exact Heap.lt_size ho
  refine ⟨⟨I.ok.mod, K.kind, I.ok.glob, I.ok.blt, Nat.le_of_lt hC, fun x y c e1 e2 => I.ok.inj x y c (K.cells x c e1) (K.cells y c e2), fun x hx => K.has x hx, fun x c e => absurd (show false = true from e) Bool.false_ne_true, I.ok.hd, I.ok.frames, .inl rfl,
      fun b hb => ⟨Nat.ne_of_lt (Nat.lt_trans (hfl b hb) hC), fun x c e => (hf b hb).2.2.2.2.1 x c (K.cells x c e)⟩, I.bs, Nat.le_trans I.ok.bsz I.sz, fun b o e hb => ?_, fun b hb z => ?_, I.stack, I.stkFree⟩,
    rfl, I.bare, Un.laid old (Nat.le_refl _) hD, ⟨m, hns, fun j x v h1 h2 h3 => ?_⟩, fun x c e => ?_, ?_, fun x c e => ?_, fun p hp => absurd (show p ∈ ([] : List (Addr × Obj)) from hp) (by simp), I.hok.laid old (Nat.le_refl _) ⟨Nat.zero_le _, [], 0, .nil, acc⟩, ?_⟩
  · rcases (hf b hb).2.2.2.1 with z | z
    · exact I.ok.noex b o e z
    · exact absurd (Nat.lt_of_lt_of_le (Heap.lt_size (I.ok.bs b o e).1) z) (Nat.lt_irrefl _)
  · rcases List.mem_cons.mp (I.stkSub b z) with e | e
    · exact (hf b hb).2.1 e
    · exact (hf b hb).2.2.1 e
  · have h2' : (outSt js σ)[j]? = some (some v) := h2
    unfold outSt at h2'
    rw [List.getElem?_map] at h2'
    cases q : js[j]? with
    | none => rw [q] at h2'; cases h2'
    | some o =>
      rw [q] at h2'
      cases o with
      | none => cases h2'
      | some i =>
        obtain ⟨x', e1, e2, e3, e4⟩ := K.out j i q
        have h1' : N'[j]? = some x := h1
        rw [e1] at h1'
        have e0 : x' = x := Option.some.inj h1'
        subst e0
        have h5 : σ[i]? = some (some v) := by
          cases z : σ[i]? with
          | none =>
            have : (some ((σ[i]?).bind id) : Option (Option V)) = some (some v) := h2'
            rw [z] at this; cases this
          | some o' =>
            have : (some ((σ[i]?).bind id) : Option (Option V)) = some (some v) := h2'
            rw [z] at this
            cases o' with
            | none => cases this
            | some v' => exact congrArg some (Option.some.inj this)
        obtain ⟨m', hn', hl'⟩ := I.loc
        obtain ⟨u, r, l⟩ := hl' i x' v e2 h5 (.inr (.inl e3))
        refine ⟨u, r, .inr ⟨e4, ?_⟩⟩
        rcases l with ⟨hk, _⟩ | ⟨_, c, hc, o, ho, hd⟩
        · have : X.env.scope.names.lookup x' = some .local := hk
          rw [e3] at this
          cases this
        · obtain ⟨c', hc'⟩ := K.has x' e4
          have := K.cells x' c' hc'
          rw [hc] at this
          cases this
          exact ⟨c, hc', o, old c o ho, hd⟩
  · obtain ⟨v, o, ho, hd⟩ := I.cell x c (K.cells x c e)
    exact ⟨v, o, old c o ho, hd⟩
  · show upd H1 s₂.heap.objs.size (.lst []) C = none
    rw [upd_ne (Nat.ne_of_gt hC)]
    exact I.hok.fresh (Nat.le_of_lt hC)
  · rw [upd_ne (Nat.ne_of_lt (cellOld x c e))]
    exact I.freeC x c (K.cells x c e)
  · show (outSt js σ).length = N'.length
    unfold outSt
    rw [List.length_map]
    exact K.len

theorem comp_block {pins : List (Addr × Obj)} {σ : St} {H1 : Hp} {s₂ : Shared} {it : Addr} {fp : List Addr} {tn : Nat → Heap → Prop} {J : It} {Q : VK} {RR : Value → Addr → Result → Shared → Prop} {E : Value → Shared → Prop}
    (K : CompOk X scope cl N' js) (hc : X.calm = true) (I : Inv X pins σ H1 s₂) (T : Turn X.prog X.w X.K tg J fp it tn) (st : tn 0 s₂.heap) (hf : ∀ b ∈ fp, FpOk X pins H1 b)
    (hg : ∀ C s₀ H₀ fp, PG (compCx X N' scope cl C s₀ H₀ fp) tg g) (hi : ∀ C s₀ H₀ fp, PIf (compCx X N' scope cl C s₀ H₀ fp) ifs ti) (he : ∀ C s₀ H₀ fp, PE (compCx X N' scope cl C s₀ H₀ fp) elt te)
    (hW : CompW J js g ti te σ H1 Q)
    (hRR : ∀ D C s' H', Inv X pins σ H' s' → (∃ m, s'.heap.Ns C m) → FpOk X pins H' C → Q (.ref D) H' → RR (.ref D) C (.ok .next) s') :
    wpAny (model X.prog X.w) X.A (newList []) (fun acc s₃ => wpAny (model X.prog X.w) X.A (newFunctionEnv scope X.env.globals cl [] X.env.qual none .none (some X.env)) (fun cenv s₄ =>
      codeAny (model X.prog X.w) X.A (.compStart (.ListComp elt [⟨tg, iter, ifs, 0⟩] scope pos) 0 (.ref it) acc { cenv with scope := relabel scope X.env }) (RR acc cenv.locals) s₄) E s₃) E s₂ := by
  refine wpAny_newObj_type (wpAny_newFunctionEnv K.nocell (by intro y hy; simp at hy) (fun h₁ hns₁ hsb₁ => ?_) K.kind)
  dsimp only at hns₁ hsb₁ ⊢
  generalize hH2 : s₂.heap.push { cls := .type "list", dict := none, data := .seq ([] : List Value).toArray } = H2 at hns₁ hsb₁ ⊢
  have hC : H2.objs.size = s₂.heap.objs.size + 1 := by rw [← hH2, Heap.size_push]
  have hlt : s₂.heap.objs.size < H2.objs.size := by rw [hC]; exact Nat.lt_succ_self _
  have below : ∀ b, b < s₂.heap.objs.size → b ≠ H2.objs.size := fun b hb => Nat.ne_of_lt (Nat.lt_trans hb hlt)
  have old : ∀ b o, s₂.heap.get? b = some o → h₁.get? b = some o := fun b o e => hsb₁.extBut b o (below b (Heap.lt_size e)) (Heap.get?_push_of_some _ (hH2 ▸ Heap.get?_push_of_some _ e))
  have acc : h₁.get? s₂.heap.objs.size = some { cls := .type "list", data := .seq ([] : List Value).toArray } := hsb₁.extBut _ _ (Nat.ne_of_lt hlt) (Heap.get?_push_of_some _ (hH2 ▸ Heap.get?_push_size _ rfl))
  have hfl : ∀ b ∈ fp, b < s₂.heap.objs.size := fun b hb => by
    obtain ⟨o, q, _⟩ := T.obj 0 _ st b hb
    exact Heap.lt_size q
  obtain ⟨W, ⟨m0, w0⟩, turn⟩ := hW s₂.heap.objs.size (I.hok.fresh (Nat.le_refl _))
  have stat : ∀ {H' : Hp}, (∀ b ∈ fp, H' b = none) → ∀ b ∈ fp, FpOk (compCx X N' scope cl H2.objs.size s₂ H1 fp) [] H' b := fun hn b hb =>
    ⟨hn b hb, below b (hfl b hb), fun z => (List.mem_cons.mp (I.stkSub b z)).elim (hf b hb).2.1 (hf b hb).2.2.1, .inl hb, fun x c e => (hf b hb).2.2.2.2.1 x c (K.cells x c e), fun p hp => absurd (show p ∈ ([] : List (Addr × Obj)) from hp) (by simp)⟩
  have loop : ∀ s₃ : Shared, s₃ = { s₂ with heap := h₁, toks := s₂.toks + ([] : List (Str × Value)).length } →
      codeAny (model X.prog X.w) X.A (.compLoop (.ListComp elt [⟨tg, iter, ifs, 0⟩] scope pos) 0 (.ref it) (.ref s₂.heap.objs.size) (compEnvC scope cl H2.objs.size X.env))
        (RR (.ref s₂.heap.objs.size) H2.objs.size) s₃ := by
    rintro s₃ rfl
    have I0 := comp_start (tk := s₂.toks + ([] : List (Str × Value)).length) K I hf hfl hlt old hns₁ acc
    refine codeAny_loop rfl (fun n s' => ∃ i ys τ H', Inv (compCx X N' scope cl H2.objs.size s₂ H1 fp) [] τ H' s' ∧ tn i s'.heap ∧ (∀ b ∈ fp, H' b = none) ∧ W i n ys τ H') (fun n s' hI => ?_) m0
      ⟨0, [], outSt js σ, _, I0, T.keep _ _ _ st (fun b _ o e => old b o e), fun b hb => by rw [upd_ne (Nat.ne_of_lt (hfl b hb))]; exact (hf b hb).1, w0⟩
    obtain ⟨i, ys, τ, H', I', st', fr', w'⟩ := hI
    show wpAny _ X.A ((compTurn (.ListComp elt [⟨tg, iter, ifs, 0⟩] scope pos) 0 (.ref it) (.ref s₂.heap.objs.size) (compEnvC scope cl H2.objs.size X.env)).onRaise (fun x => do noteFrame x (compEnvC scope cl H2.objs.size X.env); theTreesLotGoes x)) _ _ s'
    refine wpAny_noted ?_
    rw [compTurn_list]
    refine wpAny_bind (wpAny_standAt (wpAny_bind ?_))
    rcases turn i n ys τ H' w' with ⟨stop, qn⟩ | ⟨go, step⟩
    · refine wpAny_mono (T.done (compCx X N' scope cl H2.objs.size s₂ H1 fp) rfl rfl rfl hc i [] s' τ H' _ I' (stat fr') st' stop) (fun r s4 hr => ?_) fun _ _ e => e
      obtain ⟨hr, I4⟩ := hr
      subst hr
      refine wpAny_pure ?_
      have u : Un (frs X.stack) fp H1 H' s₂.heap s4.heap := I4.base
      refine hRR _ _ s4 H' (I.call' (ch := fp) I4.os u I4.hok I4.bare fun b hb => ⟨(hf b hb).2.2.2.1, (hf b hb).2.1, (hf b hb).2.2.2.2.1, (hf b hb).2.2.2.2.2⟩) ?_ (I.fpOk (Nat.le_of_lt hlt) I4.free) qn
      obtain ⟨m, hn, _⟩ := I4.loc
      exact ⟨m, hn⟩
    · refine wpAny_mono (T.item (compCx X N' scope cl H2.objs.size s₂ H1 fp) rfl rfl rfl hc i [] s' τ H' _ I' (stat fr') st' go) (fun r s4 hr => ?_) fun _ _ e => e
      obtain ⟨u, hr, h4⟩ := hr
      subst hr
      refine wpAny_bind (wpAny_mono h4 (fun _ s5 h5 => ?_) fun _ _ e => e)
      obtain ⟨x, H5, I5, r5, y5, st5, fr5⟩ := h5
      have I5' := I5.pinned (stat fr5) (T.obj _ _ st5)
      have again : ∀ {s7 : Shared} {τ7 : St} {H7 : Hp} {zs : List V} {m' : Nat}, m' < n → Inv (compCx X N' scope cl H2.objs.size s₂ H1 fp) ([] ++ pinsAt fp s5.heap) τ7 H7 s7 → W (i + 1) m' zs τ7 H7 →
          ∃ m, m < n ∧ ∃ i ys τ H', Inv (compCx X N' scope cl H2.objs.size s₂ H1 fp) [] τ H' s7 ∧ tn i s7.heap ∧ (∀ b ∈ fp, H' b = none) ∧ W i m ys τ H' := fun {s7 τ7 H7 zs m'} hm I7 w7 => by
        refine ⟨m', hm, i + 1, zs, τ7, H7, I7.unpinned, T.keep _ _ _ st5 fun b hb o e => (I7.pin (b, o) (List.mem_append_right _ (List.mem_append_right _ (mem_pinsAt hb e)))).1, fun b hb => ?_, w7⟩
        obtain ⟨o, e, d⟩ := T.obj _ _ st5 b hb
        exact (I7.pin (b, o) (List.mem_append_right _ (List.mem_append_right _ (mem_pinsAt hb e)))).2.1
      refine wpAny_bind (thnE (hg _ _ _ _ _ s5 τ H5 x u _ I5' r5 (step x H5 y5)) fun _ s6 h6 => ?_)
      obtain ⟨σ6, H6, I6, q6⟩ := h6
      refine wpAny_bind (thnE (hi _ _ _ _ _ s6 σ6 H6 _ I6 q6) fun ok s7 h7 => ?_)
      obtain ⟨H7, I7, q7⟩ := h7
      cases ok with
      | false =>
        rw [if_neg Bool.false_ne_true] at q7
        obtain ⟨m', hm, w7⟩ := q7
        exact wpAny_pure ⟨rfl, again hm I7 w7⟩
      | true =>
        rw [if_pos rfl] at q7
        refine wpAny_bind (wpAny_bind (thnE (he _ _ _ _ _ s7 σ6 H7 _ I7 q7) fun yv s8 h8 => ?_))
        obtain ⟨y, H8, I8, r8, e8, z8, m', hm, w8⟩ := h8
        refine wpAny_bind (thnE (mt_append (X := compCx X N' scope cl H2.objs.size s₂ H1 fp) _ s8 σ6 H8 (.ref s₂.heap.objs.size) [y] (.ref s₂.heap.objs.size) [yv] (fun v H9 => H9 = upd H8 s₂.heap.objs.size (.lst (ys ++ [y]))) I8 rfl (.cons r8 .nil) ⟨_, ys, y, rfl, rfl, e8, z8, rfl⟩) fun _ s9 h9 => ?_)
        obtain ⟨_, H9, I9, _, e9⟩ := h9
        subst e9
        exact wpAny_pure (wpAny_pure ⟨rfl, again hm I9 w8⟩)
  exact codeAny_compStart_list (loop _ rfl) (T.self _ 0 _ _ _ (T.keep _ _ _ st fun b _ o e => old b o e) (loop _ rfl))

variable {wi : TI}
theorem comp_free {pins : List (Addr × Obj)} {σ : St} {H' : Hp} {s' : Shared} {C : Addr} {h' : Heap} (I : Inv X pins σ H' s') (hC : FpOk X pins H' C) (hs : Heap.SameBut C s'.heap h') : Inv X pins σ H' { s' with heap := h' } :=
  I.turnedL (t' := s'.toks) (fp := [C]) (fun b hb => by have e : b = C := by simpa using hb
                                                        subst e; exact hC) fun b o hb e => (hs.2 b fun z => hb (by simp [z])).trans e
theorem pe_comp (K : CompOk X scope cl N' js) (hc : X.calm = true) (hi : PI X tg iter wi) (hg : ∀ C s₀ H₀ fp, PG (compCx X N' scope cl C s₀ H₀ fp) tg g) (hif : ∀ C s₀ H₀ fp, PIf (compCx X N' scope cl C s₀ H₀ fp) ifs ti)
    (he : ∀ C s₀ H₀ fp, PE (compCx X N' scope cl C s₀ H₀ fp) elt te) (hs : ∀ x, foldedSetIterable iter X.env x = pure x := by intro _; rfl) :
    PE X (.ListComp elt [⟨tg, iter, ifs, 0⟩] scope pos) (tComp wi js g ti te) := by
  intro pins s σ H Q I h
  rw [eval_ListComp]
  refine wpAny_comprehension_free (use := none) rfl hs K.clos K.kind K.names (thn (hi pins s σ H _ I h) fun v s1 h1 => thn h1 fun itv s2 h2 => ?_)
  obtain ⟨it, fp, tn, J, H2, e, I2, T, st2, f2, hW⟩ := h2
  subst e
  refine comp_block (RR := fun acc C => compPost (model X.prog X.w) X.A X.xe none (EP X pins σ Q) acc C) K hc I2 T st2 f2 hg hif he hW ?_
  intro D C s' H' I' hn hC q
  obtain ⟨m, hm⟩ := hn
  exact ⟨m, hm, fun h' hs' => ⟨.ref D, H', comp_free I' hC hs', rfl, q⟩⟩
theorem ps_setComp {i : Nat} {y : Str} {py spos : Pos} (hN : X.N.Nodup) (hi0 : X.N[i]? = some y) (hx : Loc X.env.scope y) (K : CompOk X scope cl N' js) (hc : X.calm = true) (hi : PI X tg iter wi) (hg : ∀ C s₀ H₀ fp, PG (compCx X N' scope cl C s₀ H₀ fp) tg g)
    (hif : ∀ C s₀ H₀ fp, PIf (compCx X N' scope cl C s₀ H₀ fp) ifs ti) (he : ∀ C s₀ H₀ fp, PE (compCx X N' scope cl C s₀ H₀ fp) elt te)
    (hsw : swapsWith (.ListComp elt [⟨tg, iter, ifs, 0⟩] scope pos) (some (.Name y py)) spos.line X.env = pure true := by rfl) (hs : ∀ x, foldedSetIterable iter X.env x = pure x := by intro _; rfl)
    (hf : X.fn y = true ∨ X.env.scope.names.lookup y = some .local := by first | exact .inl rfl | exact .inr rfl | assumption) :
    PS X (.Assign [.Name y py] (.ListComp elt [⟨tg, iter, ifs, 0⟩] scope pos) spos) (tAsg (tComp wi js g ti te) (gName i)) := by
  intro pins s σ H D I h
  rw [exec_Assign_Name_used _ _ _ _ hsw]
  refine wpAny_bind (wpAny_standAt (wpAny_bind ?_))
  show wpAny _ X.A (do let _ ← comprehension (.ListComp elt [⟨tg, iter, ifs, 0⟩] scope pos) scope X.env _ (newList []) false (eval iter X.env) (some (assign (.Name y py) X.env))) _ _ s
  refine wpAny_bind (wpAny_mono (wpAny_comprehension_free (use := some (assign (.Name y py) X.env)) (Q := fun _ s' => SP X pins D .next s') rfl hs K.clos K.kind K.names
    (thn (hi pins s σ H _ I h) fun v s1 h1 => thn h1 fun itv s2 h2 => ?_)) (fun _ s' hq => wpAny_pure (wpAny_pure hq)) fun _ _ e => e)
  obtain ⟨it, fp, tn, J, H2, e, I2, T, st2, f2, hW⟩ := h2
  subst e
  refine comp_block (RR := fun acc C => compPost (model X.prog X.w) X.A X.xe (some (assign (.Name y py) X.env)) (fun _ s' => SP X pins D .next s') acc C) K hc I2 T st2 f2 hg hif he hW ?_
  intro L C s' H' I' hn hC q
  obtain ⟨m, hm⟩ := hn
  show wpAny _ X.A (assign (.Name y py) X.env (.ref L)) _ _ _
  refine wpAny_assign_Name (store_ok2 (v := .ref L) I' hN hi0 hx rfl (fun s'' I'' hch => ?_) hf)
  obtain ⟨a, hsb, ha⟩ := hch
  have hCa : C ≠ a := by
    rcases ha with e | e
    · rw [e]; exact hC.2.1
    · exact Ne.symm (hC.2.2.2.2.1 _ _ e)
  refine ⟨m, hm.sameBut hsb hCa, fun h' hs' => ⟨_, H', comp_free I'' ?_ hs', q⟩⟩
  exact hC
end
section
variable {X : Cx} {N' : List Str} {scope : Scope} {cl : List (Str × Addr)} {C : Addr} {s₀ : Shared} {H₀ : Hp} {fp : List Addr} {pos : Pos}
theorem pg_tupC {es : List Expr} {k : Nat} {t : TGs} {n : Nat} (hc : X.calm = true) (h : PGs (compCx X N' scope cl C s₀ H₀ fp) es t)
    (hn : (assignEach es (compCx X N' scope cl C s₀ H₀ fp).env).length = n := by rfl) (hst : (assignEach es (compCx X N' scope cl C s₀ H₀ fp).env).findIdx? (·.1) = none := by rfl) : PG (compCx X N' scope cl C s₀ H₀ fp) (.Tuple es k pos) (gTup X.K n t) :=
  pg_tup (X := compCx X N' scope cl C s₀ H₀ fp) hc h hn hst
theorem ix_listC : IxR (compCx X N' scope cl C s₀ H₀ fp) (rIxL X.K) := ix_list
end
theorem CompOk.plain {X : Cx} {scope : Scope} {N' : List Str} {js : List (Option Nat)} (kind : scope.kind = .function) (loc : ∀ y ∈ scope.names, y.2 = .local) (names : ∀ y ∈ scope.names, scope.names.lookup y.1 = some .local) (len : js.length = N'.length) (no : ∀ o ∈ js, o = none) :
    CompOk X scope [] N' js where
  kind := kind
  nocell := fun y hy z => by rw [loc y hy] at z; cases z
  names := fun y hy _ => names y hy
  len := len
  clos := closureFor_none fun y hy z => by rw [loc y hy] at z; cases z
  cells := fun x c e => nomatch e
  has := fun x hx => by
    have all : ∀ (l : List (Str × NameKind)), (∀ y ∈ l, y.2 = .local) → ∀ k, (l.map fun (n, k) => if (k == NameKind.free && X.env.scope.kind == .function && X.env.kindOf n == some .cell) then (n, NameKind.cell) else (n, k)).lookup x = some k → k = .local := by
      intro l
      induction l with
      | nil => intro _ k h; cases h
      | cons y l ih =>
        intro hl k h
        obtain ⟨n, kd⟩ := y
        have e : kd = .local := hl (n, kd) List.mem_cons_self
        subst e
        have h' : List.lookup x ((n, NameKind.local) :: (l.map fun (n, k) => if (k == NameKind.free && X.env.scope.kind == .function && X.env.kindOf n == some .cell) then (n, NameKind.cell) else (n, k))) = some k := h
        rw [List.lookup_cons] at h'
        split at h'
        · exact (Option.some.inj h').symm
        · exact ih (fun y hy => hl y (List.mem_cons_of_mem _ hy)) k h'
    rcases hx with h | h
    · exact absurd (all _ loc _ h) (by decide)
    · exact absurd (all _ loc _ h) (by decide)
  out := fun j i e => by
    have := no _ (List.mem_of_getElem? e)
    cases this
theorem CompOk.free1 {X : Cx} {scope : Scope} {N' : List Str} {js : List (Option Nat)} {x : Str} {c : Addr} {nms : List (Str × NameKind)} (kind : scope.kind = .function) (nocell : ∀ y ∈ scope.names, y.2 ≠ .cell)
    (names : ∀ y ∈ scope.names, y.2 = .local → scope.names.lookup y.1 = some .local) (len : js.length = N'.length) (clos : closureFor scope X.env = pure [(x, c)]) (cells : X.env.cells.lookup x = some c)
    (rl : (relabel scope X.env).names = nms) (only : ∀ p ∈ nms, (p.2 = .cell ∨ p.2 = .free) → p.1 = x)
    (out : ∀ (j i : Nat), js[j]? = some (some i) → N'[j]? = some x ∧ X.N[i]? = some x) (cell : X.env.scope.names.lookup x = some .cell) (seen : nms.lookup x = some .cell ∨ nms.lookup x = some .free) : CompOk X scope [(x, c)] N' js where
  kind := kind
  nocell := nocell
  names := names
  len := len
  clos := clos
  cells := fun y c' h => by
    rw [List.lookup_cons] at h
    split at h
    · rename_i e
      have := eq_of_beq e
      subst this
      cases h
      exact cells
    · cases h
  has := fun y hy => by
    rw [rl] at hy
    have e : y = x := by
      rcases hy with h | h
      · exact only _ (PySem.mem_of_lookup h) (.inl rfl)
      · exact only _ (PySem.mem_of_lookup h) (.inr rfl)
    subst e
    exact ⟨c, by rw [List.lookup_cons, beq_self_eq_true]⟩
  out := fun j i h => ⟨x, (out j i h).1, (out j i h).2, cell, by rw [rl]; exact seen⟩
theorem comp_list {K : PySem.W.Frag} {a : Addr} {xs : List V} {js : List (Option Nat)} {g : TG} {te : TE} {σ : St} {H1 : Hp} {Q : VK} (Pv : Addr → Nat → List V → St → Hp → Prop) (small : xs.length ≤ sizeLine)
    (h0 : ∀ D, H1 D = none → Pv D 0 [] (outSt js σ) (upd H1 D (.lst []))) (hl : ∀ D i ys τ H, i ≤ xs.length → Pv D i ys τ H → SqL K H a xs)
    (hs : ∀ D i x ys τ H, xs[i]? = some x → ys.length = i → Pv D i ys τ H → g x τ H fun τ2 H2 => te τ2 H2 fun y H4 => H4 D = some (.lst ys) ∧ Pv D (i + 1) (ys ++ [y]) τ2 (upd H4 D (.lst (ys ++ [y]))))
    (hd : ∀ D ys τ H, ys.length = xs.length → Pv D xs.length ys τ H → Q (.ref D) H) (mg : ∀ x τ H Q Q', (∀ τ H, Q τ H → Q' τ H) → g x τ H Q → g x τ H Q') (me : ∀ τ H Q Q', (∀ v H, Q v H → Q' v H) → te τ H Q → te τ H Q') :
    CompW (Itl K a) js g tAlways te σ H1 Q := by
  intro D hD
  refine ⟨fun i m ys τ H => m = xs.length - i ∧ i ≤ xs.length ∧ ys.length = i ∧ Pv D i ys τ H, ⟨xs.length, by simp, Nat.zero_le _, rfl, h0 D hD⟩, ?_⟩
  rintro i m ys τ H ⟨rfl, hi, hy, p⟩
  have q := hl D i ys τ H hi p
  by_cases hlt : i < xs.length
  · refine .inr ⟨⟨xs, xs[i], q, by simp [hlt]⟩, fun x H' y => ?_⟩
    obtain ⟨e, y⟩ := y
    subst e
    refine mg _ _ _ _ _ (fun τ2 H2 z => ?_) (hs D i x ys τ _ (y xs q) hy p)
    unfold tAlways
    dsimp only
    rw [if_pos rfl]
    refine me _ _ _ _ (fun v H4 z4 => ?_) z
    obtain ⟨z1, z2⟩ := z4
    exact ⟨z1, by omega, xs.length - (i + 1), by omega, rfl, hlt, by rw [List.length_append, List.length_singleton]; omega, z2⟩
  · have e : i = xs.length := by omega
    subst e
    exact .inl ⟨⟨xs, q, Nat.le_refl _⟩, hd D ys τ H hy p⟩
end L2


set_option linter.all false
namespace KM
open PySem PySem.Spec PyProof.Rows
def mkS (t : Tx) : Str := ⟨t.toArray⟩
def unS (x : Str) : Tx := x.cps.toList
theorem mk_un (x : Str) : mkS (unS x) = x := by unfold mkS unS; rw [Array.toArray_toList]
theorem un_mk (t : Tx) : unS (mkS t) = t := rfl
theorem mkS_len (t : Tx) : (mkS t).length = t.length := by unfold mkS Str.length; simp
theorem mkS_app (a b : Tx) : mkS a ++ mkS b = mkS (a ++ b) := by
  show Str.append (mkS a) (mkS b) = _
  unfold Str.append mkS
  simp
theorem lp : (Str.ofString "(") = mkS [40] := by decide +kernel
theorem rp : (Str.ofString ")") = mkS [41] := by decide +kernel
theorem ep : (Str.ofString "") = mkS [] := by decide +kernel
theorem join_flat : ∀ ts : List Tx, Str.join (mkS []) (ts.map mkS) = mkS ts.flatten
  | [] => rfl
  | [t] => by
    show mkS t = mkS [t].flatten
    simp
  | t :: u :: r => by
    have ih := join_flat (u :: r)
    show mkS t ++ mkS [] ++ Str.join (mkS []) ((u :: r).map mkS) = _
    rw [ih, mkS_app, mkS_app, List.append_nil]
    rfl
theorem rising_pw : ∀ (ss : List Str) (p : Str), risingS p ss = true → (p :: ss).Pairwise fun a b => unS a ≤ unS b
  | [], p, _ => by simp
  | x :: r, p, h => by
    have h' : (!ltCps x.cps.toList p.cps.toList && risingS x r) = true := h
    rw [Bool.and_eq_true] at h'
    obtain ⟨h1, h2⟩ := h'
    have ih := rising_pw r x h2
    have hx : unS p ≤ unS x := by
      rw [ltCps_eq] at h1
      intro z
      rw [decide_eq_true (show x.cps.toList < p.cps.toList from z)] at h1
      cases h1
    refine List.pairwise_cons.mpr ⟨fun y hy => ?_, ih⟩
    rcases List.mem_cons.mp hy with rfl | hy
    · exact hx
    · exact List.le_trans hx ((List.pairwise_cons.mp ih).1 y hy)
theorem sorted_pw (ss : List Str) (h : sortedS ss = true) : ss.Pairwise fun a b => unS a ≤ unS b := by
  cases ss with
  | nil => exact List.Pairwise.nil
  | cons x r => exact rising_pw r x h
theorem sorted_is {ss : List Str} {ts : List Tx} (hp : ss.Perm (ts.map mkS)) (hs : sortedS ss = true) : ss = (srt ts).map mkS := by
  have e : ss = (ss.map unS).map mkS := by
    rw [List.map_map]
    have : (mkS ∘ unS) = id := by funext x; exact mk_un x
    rw [this, List.map_id]
  have p : (ss.map unS).Perm ts := by
    have := hp.map unS
    rw [List.map_map] at this
    have z : (unS ∘ mkS) = id := by funext x; exact un_mk x
    rw [z, List.map_id] at this
    exact this
  rw [e, srt_of p (List.pairwise_map.mpr (sorted_pw ss hs))]
theorem join_is (ts : List Tx) : Txt.join (Str.ofString "") (ts.map mkS) = mkS ts.flatten := by
  show Builtin.Str.glued _ _ = _
  rw [StrLaws.glued_eq_join, ep, join_flat]
theorem brk_is (t : Tx) : (Str.ofString "(" ++ mkS t) ++ Str.ofString ")" = mkS (brk t) := by
  rw [lp, rp, mkS_app, mkS_app]
  rfl
end KM


set_option Elab.async false
set_option linter.all false
set_option maxRecDepth 100000
namespace KD
open PySem L2 KM PyProof.Rows
def vO : Option Nat → V
  | none => .non
  | some k => .int (k : Int)
def vN (k : Nat) : V := .int (k : Int)
def vT (t : Tx) : V := .str (mkS t)
theorem same_new {H : Hp} {p : Addr} (h : H p = none) (o : HO) : Same H (upd H p o) := fun b u q => by rw [upd_ne (ne_of_none q h)]; exact q
theorem same_upd {H H' : Hp} {p : Addr} (e : Same H H') (h : H p = none) (o : HO) : Same H (upd H' p o) := fun b u q => by rw [upd_ne (ne_of_none q h)]; exact e b u q
theorem small {n : Nat} (h : n ≤ 1000000) : n ≤ sizeLine := Nat.le_trans h (by decide)
theorem smallt {n : Nat} (h : n ≤ 1000000) : n < sizeLine := Nat.lt_of_le_of_lt h (by decide)
theorem at_map {α : Type} {f : α → V} {xs : List α} {i : Nat} {x : α} (h : xs[i]? = some x) : atI (xs.map f) (i : Int) = some (f x) := atI_nat (by rw [List.getElem?_map, h]; rfl)
theorem get_map {α : Type} {f : α → V} {xs : List α} {i : Nat} {x : α} (h : xs[i]? = some x) : (xs.map f)[i]? = some (f x) := by rw [List.getElem?_map, h]; rfl
theorem of_map {α : Type} {f : α → V} {xs : List α} {i : Nat} {y : V} (h : (xs.map f)[i]? = some y) : ∃ x, xs[i]? = some x ∧ y = f x := by
  rw [List.getElem?_map] at h
  cases q : xs[i]? with
  | none => rw [q] at h; cases h
  | some x => rw [q] at h; exact ⟨x, rfl, (Option.some.inj h).symm⟩
theorem ixN_nat {n k : Nat} (h : k < n) : ixN n (k : Int) = some k := by
  unfold ixN
  rw [if_pos (by omega), if_pos (by omega)]
  rfl
theorem len_vT (ts : List Tx) : ((ts.map mkS).map (·.length)).sum = (ts.map (·.length)).sum := by
  rw [List.map_map]
  exact congrArg List.sum (List.map_congr_left fun t _ => mkS_len t)
theorem vT_map (ts : List Tx) : (ts.map mkS).map V.str = ts.map vT := by rw [List.map_map]; rfl

structure Kit (P : Program) (w : World) (K : PySem.W.Frag) (mg : Str → Option Value) (base : Heap) (k : Nat) (x : Str) (ps : List Str) (sp : Sp) (f : Addr) (fd : FuncData) : Prop where
  ok : FnOk P w K mg base CX0 k f fd ps sp
  bd : Binds K fd ps []
  kp : PySem.W.keepIn K (.ref f) = true
  mg : mg x = some (.ref f)
def spOver : Sp := fun vs H Q _ => ∃ (p : Addr) (ts : List Tx), vs = [.ref p] ∧ H p = some (.lst (ts.map vT)) ∧ ts.length < 64 ∧ (ts.map (·.length)).sum ≤ 100000 ∧ ∀ H', Same H H' → Q (vT (brk (srt ts).flatten)) H'
structure UnderAt (H : Hp) (u : Addr) (as : List Addr) (ab : Ab) : Prop where
  top : H u = some (.lst (as.map V.ref))
  len : as.length = ab.length
  each : ∀ (i : Nat) (c : Addr), as[i]? = some c → H c = some (.lst ((kids ab i).map vN))
theorem UnderAt.same {H H' : Hp} {u : Addr} {as : List Addr} {ab : Ab} (U : UnderAt H u as ab) (s : Same H H') : UnderAt H' u as ab := ⟨s _ _ U.top, U.len, fun i c h => s _ _ (U.each i c h)⟩
def spUpto (K : PySem.W.Frag) : Sp := fun vs H Q _ => ∃ (a : Addr) (xs : List V) (s g : Int), vs = [.ref a, .int s, .int g] ∧ SqL K H a xs ∧ xs.length ≤ 63 ∧ ∀ H', Same H H' → Q (.int s) H'
def spWhole : Sp := fun vs H Q _ => ∃ (i : Int), vs = [.int i] ∧ ∀ H', Same H H' → Q (.bl true) H'
def spRooted : Sp := fun vs H Q _ => ∃ (a : Addr) (ns : List Int), vs = [.ref a] ∧ H a = some (.lst (ns.map V.int)) ∧ ns.length ≤ 200 ∧
  ∀ (p : Addr) (ab : Ab) (H' : Hp), Same H H' → Up ab → ab.length ≤ ns.length + 1 → H p = none → H' p = some (.lst (ab.map vO)) → Q (.ref p) H'
def spNames : Sp := fun vs H Q _ => ∃ (a : Addr) (ns : List Int) (m : Nat), vs = [.ref a, vN m] ∧ H a = some (.lst (ns.map V.int)) ∧ m ≤ 1000 ∧ ns.length ≤ 1000 ∧
  ∀ (p : Addr) (nm : List Nat) (H' : Hp), Same H H' → nm.Perm (List.range m) → H' p = some (.lst (nm.map vN)) → Q (.ref p) H'
def spLaw (K : PySem.W.Frag) : Sp := fun vs H Q _ => ∃ (a : Addr) (ns : List Int), vs = [.ref a] ∧ SqL K H a (ns.map V.int) ∧ ns.length ≤ 63 ∧ ∀ H', Q (.bl true) H'
end KD


set_option linter.all false
namespace KM
inductive RT where
  | node (ts : List RT)
mutual
def RT.str : RT → Tx
  | .node ts => brk (strL ts)
def strL : List RT → Tx
  | [] => []
  | t :: ts => t.str ++ strL ts
end
mutual
def RT.size : RT → Nat
  | .node ts => 1 + sizeL ts
def sizeL : List RT → Nat
  | [] => 0
  | t :: ts => t.size + sizeL ts
end
mutual
/-- the knots above, the root numbered n and under p -/
def RT.lay (n : Nat) (p : Option Nat) : RT → Ab
  | .node ts => p :: layL (n + 1) (some n) ts
def layL (n : Nat) (p : Option Nat) : List RT → Ab
  | [] => []
  | t :: ts => t.lay n p ++ layL (n + t.size) p ts
end
mutual
/-- the form: the parts in order -/
def RT.canon : RT → Tx
  | .node ts => brk (srt (canonL ts)).flatten
def canonL : List RT → List Tx
  | [] => []
  | t :: ts => t.canon :: canonL ts
end
theorem strL_flat : ∀ ts : List RT, strL ts = (ts.map RT.str).flatten
  | [] => by simp [strL]
  | t :: ts => by rw [strL, strL_flat ts, List.map_cons, List.flatten_cons]
theorem size_pos : ∀ t : RT, 0 < t.size
  | .node ts => by rw [RT.size]; omega
mutual
theorem lay_len (n : Nat) (p : Option Nat) : ∀ t : RT, (t.lay n p).length = t.size
  | .node ts => by rw [RT.lay, RT.size, List.length_cons, layL_len]; omega
theorem layL_len (n : Nat) (p : Option Nat) : ∀ ts : List RT, (layL n p ts).length = sizeL ts
  | [] => by simp [layL, sizeL]
  | t :: ts => by rw [layL, sizeL, List.length_append, lay_len, layL_len]
end
mutual
theorem str_len : ∀ t : RT, t.str.length = 2 * t.size
  | .node ts => by rw [RT.str, RT.size, brk_len, strL_len]; omega
theorem strL_len : ∀ ts : List RT, (strL ts).length = 2 * sizeL ts
  | [] => by simp [strL, sizeL]
  | t :: ts => by rw [strL, sizeL, List.length_append, str_len, strL_len]; omega
end
abbrev NS := Ab × Option Nat
def nkStep (st : NS) (c : Nat) : Option NS :=
  if c = 40 then (if st.2 = none ∧ st.1 ≠ [] then none else some (st.1 ++ [st.2], some st.1.length))
  else if c = 41 then (match st.2 with
    | none => none
    | some k => some (st.1, (st.1[k]?).getD none))
  else none
def nkRun : NS → Tx → Option NS
  | st, [] => some st
  | st, c :: cs => (nkStep st c).bind fun st' => nkRun st' cs
theorem step40 {A : Ab} {inm : Option Nat} (h : inm = none → A = []) : nkStep (A, inm) 40 = some (A ++ [inm], some A.length) := by
  unfold nkStep
  rw [if_pos rfl, if_neg]
  rintro ⟨h1, h2⟩
  exact h2 (h h1)
mutual
theorem run_str (A : Ab) (inm : Option Nat) (h : inm = none → A = []) (rest : Tx) : ∀ t : RT, nkRun (A, inm) (t.str ++ rest) = nkRun (A ++ t.lay A.length inm, inm) rest
  | .node ts => by
    rw [RT.str, RT.lay]
    show (nkStep (A, inm) 40).bind (fun st' => nkRun st' ((strL ts ++ [41]) ++ rest)) = _
    rw [step40 h]
    show nkRun (A ++ [inm], some A.length) ((strL ts ++ [41]) ++ rest) = _
    rw [List.append_assoc, run_strL (A ++ [inm]) A.length (by simp) ([41] ++ rest) ts]
    show (nkStep ((A ++ [inm]) ++ layL (A ++ [inm]).length (some A.length) ts, some A.length) 41).bind (fun st' => nkRun st' rest) = _
    have e : (A ++ [inm]).length = A.length + 1 := by simp
    rw [e]
    have g : (((A ++ [inm]) ++ layL (A.length + 1) (some A.length) ts)[A.length]?).getD none = inm := by
      rw [List.getElem?_append_left (by simp), List.getElem?_append_right (Nat.le_refl _), Nat.sub_self]
      rfl
    show (some ((A ++ [inm]) ++ layL (A.length + 1) (some A.length) ts, (((A ++ [inm]) ++ layL (A.length + 1) (some A.length) ts)[A.length]?).getD none)).bind (fun st' => nkRun st' rest) = _
    rw [g, List.append_assoc]
    rfl
theorem run_strL (A : Ab) (k : Nat) (h : k < A.length) (rest : Tx) : ∀ ts : List RT, nkRun (A, some k) (strL ts ++ rest) = nkRun (A ++ layL A.length (some k) ts, some k) rest
  | [] => by simp [strL, layL]
  | t :: ts => by
    rw [strL, layL, List.append_assoc, run_str A (some k) (fun z => nomatch z) (strL ts ++ rest) t]
    have e : (A ++ t.lay A.length (some k)).length = A.length + t.size := by rw [List.length_append, lay_len]
    rw [run_strL (A ++ t.lay A.length (some k)) k (by rw [e]; omega) rest ts, e, List.append_assoc]
end
mutual
theorem lay_up (n : Nat) (p : Option Nat) : ∀ (t : RT) (i : Nat) (x : Option Nat), (t.lay n p)[i]? = some x → (i = 0 ∧ x = p) ∨ (0 < i ∧ ∃ k, x = some k ∧ n ≤ k ∧ k < n + i)
  | .node ts, i, x, h => by
    rw [RT.lay] at h
    cases i with
    | zero => exact .inl ⟨rfl, (Option.some.inj h).symm⟩
    | succ i =>
      rw [List.getElem?_cons_succ] at h
      refine .inr ⟨by omega, ?_⟩
      rcases layL_up (n + 1) n (by omega) ts i x h with e | ⟨k, e, h1, h2⟩
      · exact ⟨n, e, by omega, by omega⟩
      · exact ⟨k, e, by omega, by omega⟩
theorem layL_up (m q : Nat) (hq : q < m) : ∀ (ts : List RT) (i : Nat) (x : Option Nat), (layL m (some q) ts)[i]? = some x → x = some q ∨ ∃ k, x = some k ∧ m ≤ k ∧ k < m + i
  | [], i, x, h => by simp [layL] at h
  | t :: ts, i, x, h => by
    rw [layL] at h
    by_cases hi : i < t.size
    · rw [List.getElem?_append_left (by rw [lay_len]; exact hi)] at h
      rcases lay_up m (some q) t i x h with ⟨_, e⟩ | ⟨_, k, e, h1, h2⟩
      · exact .inl e
      · exact .inr ⟨k, e, h1, h2⟩
    · rw [List.getElem?_append_right (by rw [lay_len]; omega), lay_len] at h
      rcases layL_up (m + t.size) q (by omega) ts _ x h with e | ⟨k, e, h1, h2⟩
      · exact .inl e
      · exact .inr ⟨k, e, by omega, by omega⟩
end
theorem lay_in {n : Nat} {p : Option Nat} {t : RT} {i : Nat} {x : Option Nat} (h : (t.lay n p)[i]? = some x) : (i = 0 ∧ x = p) ∨ ∃ k, x = some k ∧ n ≤ k ∧ k < n + t.size := by
  have hl := (List.getElem?_eq_some_iff.mp h).1
  rw [lay_len] at hl
  rcases lay_up n p t i x h with z | ⟨_, k, e, h1, h2⟩
  · exact .inl z
  · exact .inr ⟨k, e, h1, by omega⟩
theorem layL_in {m q : Nat} (hq : q < m) {ts : List RT} {i : Nat} {x : Option Nat} (h : (layL m (some q) ts)[i]? = some x) : x = some q ∨ ∃ k, x = some k ∧ m ≤ k ∧ k < m + sizeL ts := by
  have hl := (List.getElem?_eq_some_iff.mp h).1
  rw [layL_len] at hl
  rcases layL_up m q hq ts i x h with z | ⟨k, e, h1, h2⟩
  · exact .inl z
  · exact .inr ⟨k, e, h1, by omega⟩
def pos (m : Nat) : List RT → List Nat
  | [] => []
  | t :: ts => m :: pos (m + t.size) ts
theorem pos_ge {m : Nat} : ∀ {ts : List RT} {j : Nat}, j ∈ pos m ts → m ≤ j
  | [], j, h => by simp [pos] at h
  | t :: ts, j, h => by
    rw [pos] at h
    rcases List.mem_cons.mp h with rfl | h
    · omega
    · have := pos_ge h; omega
theorem pos_pw : ∀ (m : Nat) (ts : List RT), (pos m ts).Pairwise (· < ·)
  | m, [] => by simp [pos]
  | m, t :: ts => by
    rw [pos]
    refine List.pairwise_cons.mpr ⟨fun j hj => ?_, pos_pw _ ts⟩
    have := pos_ge hj
    have := size_pos t
    omega
theorem pos_mem {m q : Nat} (hq : q < m) : ∀ {ts : List RT} {i : Nat}, (layL m (some q) ts)[i]? = some (some q) ↔ m + i ∈ pos m ts ∧ i < sizeL ts
  | [], i => by simp [layL, pos]
  | t :: ts, i => by
    rw [layL, pos, sizeL]
    have hs := size_pos t
    by_cases hi : i < t.size
    · rw [List.getElem?_append_left (by rw [lay_len]; exact hi)]
      constructor
      · intro h
        rcases lay_in h with ⟨e, _⟩ | ⟨k, e, h1, h2⟩
        · subst e; exact ⟨List.mem_cons_self, by omega⟩
        · have := Option.some.inj e; omega
      · rintro ⟨h, _⟩
        rcases List.mem_cons.mp h with e | h
        · have : i = 0 := by omega
          subst this
          cases t with
          | node us => rw [RT.lay]; rfl
        · have := pos_ge h; omega
    · rw [List.getElem?_append_right (by rw [lay_len]; omega), lay_len]
      have ih := pos_mem (m := m + t.size) (q := q) (by omega) (ts := ts) (i := i - t.size)
      rw [ih]
      have e : m + t.size + (i - t.size) = m + i := by omega
      rw [e]
      constructor
      · rintro ⟨h1, h2⟩
        exact ⟨List.mem_cons_of_mem _ h1, by omega⟩
      · rintro ⟨h1, h2⟩
        rcases List.mem_cons.mp h1 with z | z
        · omega
        · exact ⟨z, by omega⟩
structure Sub (A : Ab) (n : Nat) (t : RT) : Prop where
  ex : ∃ p : Option Nat, (∀ q, p = some q → q < n) ∧ ∀ i, i < t.size → A[n + i]? = (t.lay n p)[i]?
  closed : ∀ (j k : Nat), A[j]? = some (some k) → n ≤ k → k < n + t.size → n ≤ j ∧ j < n + t.size
structure SubL (A : Ab) (m q : Nat) (ts : List RT) : Prop where
  lt : q < m
  at' : ∀ i, i < sizeL ts → A[m + i]? = (layL m (some q) ts)[i]?
  closed : ∀ (j k : Nat), A[j]? = some (some k) → m ≤ k → k < m + sizeL ts → m ≤ j ∧ j < m + sizeL ts
theorem Sub.parts {A : Ab} {n : Nat} {ts : List RT} (S : Sub A n (.node ts)) : SubL A (n + 1) n ts := by
  obtain ⟨p, hp, ha⟩ := S.ex
  have hsz : (RT.node ts).size = 1 + sizeL ts := by rw [RT.size]
  refine ⟨by omega, fun i hi => ?_, fun j k h h1 h2 => ?_⟩
  · have := ha (i + 1) (by rw [hsz]; omega)
    rw [RT.lay, List.getElem?_cons_succ] at this
    rw [← this]
    congr 1
    omega
  · obtain ⟨h3, h4⟩ := S.closed j k h (by omega) (by rw [hsz]; omega)
    rw [hsz] at h4
    refine ⟨?_, by omega⟩
    by_cases e : j = n
    · subst e
      have := ha 0 (by rw [hsz]; omega)
      rw [Nat.add_zero, h, RT.lay] at this
      have e2 : p = some k := (Option.some.inj this).symm
      have := hp k e2
      omega
    · omega
theorem SubL.head {A : Ab} {m q : Nat} {t : RT} {ts : List RT} (S : SubL A m q (t :: ts)) : Sub A m t := by
  have hsz : sizeL (t :: ts) = t.size + sizeL ts := by rw [sizeL]
  refine ⟨⟨some q, fun q' e => by cases e; exact S.lt, fun i hi => ?_⟩, fun j k h h1 h2 => ?_⟩
  · rw [S.at' i (by rw [hsz]; omega), layL, List.getElem?_append_left (by rw [lay_len]; exact hi)]
  · obtain ⟨h3, h4⟩ := S.closed j k h h1 (by rw [hsz]; omega)
    refine ⟨h3, ?_⟩
    by_cases e : j < m + t.size
    · exact e
    · exfalso
      obtain ⟨i, rfl⟩ : ∃ i, j = m + i := ⟨j - m, by omega⟩
      rw [S.at' i (by rw [hsz] at h4 ⊢; omega), layL, List.getElem?_append_right (by rw [lay_len]; omega)] at h
      rcases layL_in (by have := S.lt; omega) h with z | ⟨k', z, z1, z2⟩
      · have := Option.some.inj z; have := S.lt; omega
      · have := Option.some.inj z; omega
theorem Sub.kids {A : Ab} {n : Nat} {ts : List RT} (S : Sub A n (.node ts)) : kids A n = pos (n + 1) ts := by
  have L := S.parts
  have hsz : (RT.node ts).size = 1 + sizeL ts := by rw [RT.size]
  have pk : (KM.kids A n).Pairwise (· < ·) := List.Pairwise.sublist List.filter_sublist List.pairwise_lt_range
  have nd1 : (KM.kids A n).Nodup := kids_nodup A n
  have nd2 : (pos (n + 1) ts).Nodup := (pos_pw (n + 1) ts).imp fun h => Nat.ne_of_lt h
  have hm : ∀ j, j ∈ KM.kids A n ↔ j ∈ pos (n + 1) ts := by
    intro j
    rw [mem_kids]
    constructor
    · intro h
      obtain ⟨p, hp, ha⟩ := S.ex
      obtain ⟨h3, h4⟩ := S.closed j n h (Nat.le_refl _) (by rw [hsz]; omega)
      rw [hsz] at h4
      have hj : j ≠ n := by
        rintro rfl
        have := ha 0 (by rw [hsz]; omega)
        rw [Nat.add_zero, h, RT.lay] at this
        have := hp _ (Option.some.inj this).symm
        omega
      obtain ⟨i, rfl⟩ : ∃ i, j = n + 1 + i := ⟨j - n - 1, by omega⟩
      rw [L.at' i (by omega)] at h
      exact ((pos_mem L.lt).mp h).1
    · intro h
      have hge := pos_ge h
      obtain ⟨i, rfl⟩ : ∃ i, j = n + 1 + i := ⟨j - n - 1, by omega⟩
      have hlt : i < sizeL ts := by
        have : ∀ (m : Nat) (us : List RT) (x : Nat), x ∈ pos m us → x < m + sizeL us := by
          intro m us
          induction us generalizing m with
          | nil => intro x h; simp [pos] at h
          | cons u us ih =>
            intro x h
            rw [pos] at h
            rw [sizeL]
            have := size_pos u
            rcases List.mem_cons.mp h with rfl | h
            · omega
            · have := ih _ _ h; omega
        have := this _ _ _ h
        omega
      rw [L.at' i hlt]
      exact (pos_mem L.lt).mpr ⟨h, hlt⟩
  exact List.Perm.eq_of_pairwise (le := (· < ·)) (fun a b _ _ h1 h2 => by omega) pk (pos_pw _ _) ((List.perm_ext_iff_of_nodup nd1 nd2).mpr hm)
def anc (A : Ab) : Nat → Option Nat → Option Nat
  | 0, x => x
  | k + 1, x => anc A k (x.bind fun i => (A[i]?).getD none)
def back : Int → Tx → Option Tx
  | _, [] => none
  | d, c :: r => if d + (if c = 40 then 1 else 0) - (if c = 41 then 1 else 0) < 1 then back (d + (if c = 40 then 1 else 0) - (if c = 41 then 1 else 0)) r else some r
def knotAt (u : Tx) : Nat := (u.filter (· == 40)).length
structure Read (u : Tx) (A : Ab) (inm : Option Nat) : Prop where
  cnt : A.length = knotAt u
  lt : ∀ i, inm = some i → i < A.length
  up : ∀ (j p : Nat), A[j]? = some (some p) → p < A.length
  bk : ∀ k : Nat, (back (-(k : Int)) u.reverse).map (fun r => knotAt r.reverse) = anc A k inm
theorem knot_snoc (u : Tx) (c : Nat) : knotAt (u ++ [c]) = knotAt u + (if c = 40 then 1 else 0) := by
  unfold knotAt
  rw [List.filter_append, List.length_append]
  by_cases h : c = 40
  · subst h; simp
  · simp [h]
theorem anc_none (A : Ab) : ∀ k, anc A k none = none
  | 0 => rfl
  | k + 1 => anc_none A k
theorem anc_app {A : Ab} (z : Option Nat) (hup : ∀ (j p : Nat), A[j]? = some (some p) → p < A.length) : ∀ (k : Nat) (x : Option Nat), (∀ i, x = some i → i < A.length) → anc (A ++ [z]) k x = anc A k x
  | 0, _, _ => rfl
  | k + 1, x, h => by
    cases x with
    | none => show anc (A ++ [z]) k none = anc A k none; rw [anc_none, anc_none]
    | some i =>
      show anc (A ++ [z]) k (((A ++ [z])[i]?).getD none) = anc A k ((A[i]?).getD none)
      have hi := h i rfl
      rw [List.getElem?_append_left hi]
      refine anc_app z hup k _ fun p hp => ?_
      rw [List.getElem?_eq_getElem hi] at hp
      exact hup i p (by rw [List.getElem?_eq_getElem hi]; exact congrArg some hp)
theorem Read.step {u : Tx} {A : Ab} {inm : Option Nat} (R : Read u A inm) {c : Nat} {A' : Ab} {inm' : Option Nat} (h : nkStep (A, inm) c = some (A', inm')) : Read (u ++ [c]) A' inm' := by
  unfold nkStep at h
  by_cases h40 : c = 40
  · rw [if_pos h40] at h
    split at h
    · cases h
    · have e := Option.some.inj h
      have e1 : A ++ [inm] = A' := congrArg Prod.fst e
      have e2 : some A.length = inm' := congrArg Prod.snd e
      subst e1 e2 h40
      refine ⟨by rw [List.length_append, knot_snoc, R.cnt]; rfl, fun i hi => by cases hi; rw [List.length_append]; simp, fun j p hj => ?_, fun k => ?_⟩
      · rw [List.length_append, List.length_singleton]
        by_cases hl : j < A.length
        · rw [List.getElem?_append_left hl] at hj
          have := R.up j p hj
          omega
        · rw [List.getElem?_append_right (by omega)] at hj
          have h0 : j - A.length = 0 := by
            have := (List.getElem?_eq_some_iff.mp hj).1
            simp at this
            omega
          rw [h0] at hj
          have := R.lt p (Option.some.inj hj)
          omega
      · rw [List.reverse_append]
        show (back (-(k : Int)) (40 :: u.reverse)).map _ = _
        cases k with
        | zero =>
          have e : back (-((0 : Nat) : Int)) (40 :: u.reverse) = some u.reverse := rfl
          rw [e]
          show some (knotAt u.reverse.reverse) = some A.length
          rw [List.reverse_reverse, R.cnt]
        | succ k =>
          have e : back (-((k + 1 : Nat) : Int)) (40 :: u.reverse) = back (-(k : Int)) u.reverse := by
            have ed : -((k + 1 : Nat) : Int) + (if 40 = 40 then 1 else 0) - (if 40 = 41 then 1 else 0) = -(k : Int) := by
              rw [if_pos rfl, if_neg (by decide)]; omega
            show (if -((k + 1 : Nat) : Int) + (if 40 = 40 then 1 else 0) - (if 40 = 41 then 1 else 0) < 1 then back (-((k + 1 : Nat) : Int) + (if 40 = 40 then 1 else 0) - (if 40 = 41 then 1 else 0)) u.reverse else some u.reverse) = _
            rw [ed, if_pos (by omega)]
          rw [e, R.bk k]
          show anc A k inm = anc (A ++ [inm]) k (((A ++ [inm])[A.length]?).getD none)
          rw [List.getElem?_append_right (Nat.le_refl _), Nat.sub_self]
          exact (anc_app inm R.up k inm R.lt).symm
  · rw [if_neg h40] at h
    by_cases h41 : c = 41
    · rw [if_pos h41] at h
      subst h41
      cases inm with
      | none => cases h
      | some i =>
        have e := Option.some.inj h
        have e1 : A = A' := congrArg Prod.fst e
        have e2 : (A[i]?).getD none = inm' := congrArg Prod.snd e
        subst e1 e2
        have hi := R.lt i rfl
        refine ⟨by rw [knot_snoc, R.cnt]; rfl, fun p hp => ?_, R.up, fun k => ?_⟩
        · rw [List.getElem?_eq_getElem hi] at hp
          exact R.up i p (by rw [List.getElem?_eq_getElem hi]; exact congrArg some hp)
        · rw [List.reverse_append]
          show (back (-(k : Int)) (41 :: u.reverse)).map _ = _
          have e : back (-(k : Int)) (41 :: u.reverse) = back (-((k + 1 : Nat) : Int)) u.reverse := by
            have ed : -(k : Int) + (if 41 = 40 then 1 else 0) - (if 41 = 41 then 1 else 0) = -((k + 1 : Nat) : Int) := by
              rw [if_neg (by decide), if_pos rfl]; omega
            show (if -(k : Int) + (if 41 = 40 then 1 else 0) - (if 41 = 41 then 1 else 0) < 1 then back (-(k : Int) + (if 41 = 40 then 1 else 0) - (if 41 = 41 then 1 else 0)) u.reverse else some u.reverse) = _
            rw [ed, if_pos (by omega)]
          rw [e, R.bk (k + 1)]
          rfl
    · rw [if_neg h41] at h
      cases h

theorem Tree.bfsEx {ab : Ab} {r : Nat} {rk : Nat → Nat} (T : Tree ab r rk) : ∃ ord, Bfs ab r ord ord.length := by
  have go : ∀ (d pl : Nat) (ord : List Nat), ab.length - pl ≤ d → Bfs ab r ord pl → ∃ ord, Bfs ab r ord ord.length := by
    intro d
    induction d with
    | zero =>
      intro pl ord hd B
      have h1 := B.len
      have h2 := B.le
      have : pl = ord.length := by omega
      subst this
      exact ⟨ord, B⟩
    | succ d ih =>
      intro pl ord hd B
      by_cases h : pl < ord.length
      · have h1 := B.len
        exact ih (pl + 1) _ (by omega) (B.step T (List.getElem?_eq_getElem h))
      · have h2 := B.le
        have : pl = ord.length := by omega
        subst this
        exact ⟨ord, B⟩
  exact go _ 0 [r] (Nat.le_refl _) T.bfs0
theorem sum_flatMap (f : Nat → List Nat) (g : Nat → Nat) : ∀ l : List Nat, ((l.flatMap f).map g).sum = (l.map fun k => ((f k).map g).sum).sum
  | [] => rfl
  | a :: l => by rw [List.flatMap_cons, List.map_append, List.sum_append_nat, sum_flatMap f g l, List.map_cons, List.sum_cons]
theorem Tree.len {ab : Ab} {r : Nat} {rk : Nat → Nat} (T : Tree ab r rk) : (fm ab r).length = 2 * ab.length := by
  obtain ⟨ord, B⟩ := T.bfsEx
  have hw := B.whole T
  have e := B.eq
  rw [List.take_length] at e
  have each : ∀ k ∈ ord, (fm ab k).length = 2 + ((kids ab k).map fun c => (fm ab c).length).sum := by
    intro k hk
    rw [T.fm_eq (B.lt k hk), brk_len, srt_len, List.map_map]
    exact Nat.add_comm _ _
  have s1 : (ord.map fun k => (fm ab k).length).sum = (ord.map fun k => 2 + ((kids ab k).map fun c => (fm ab c).length).sum).sum := congrArg List.sum (List.map_congr_left each)
  rw [sum_map_add, sum_const, ← sum_flatMap] at s1
  have s2 : (ord.map fun k => (fm ab k).length).sum = (fm ab r).length + ((ord.flatMap (kids ab)).map fun c => (fm ab c).length).sum := by
    have : ord.map (fun k => (fm ab k).length) = (r :: ord.flatMap (kids ab)).map (fun k => (fm ab k).length) := congrArg _ e
    rw [this, List.map_cons, List.sum_cons]
  rw [hw] at s1
  omega
theorem brackets (t : RT) : ∀ c ∈ t.str, c = 40 ∨ c = 41 := by
  have both : (∀ n, ∀ t : RT, t.size ≤ n → ∀ c ∈ t.str, c = 40 ∨ c = 41) := by
    intro n
    induction n with
    | zero => intro t h; have := size_pos t; omega
    | succ n ih =>
      intro t h c hc
      cases t with
      | node ts =>
        rw [RT.size] at h
        rw [RT.str] at hc
        have hl : ∀ (us : List RT), sizeL us ≤ n → ∀ c ∈ strL us, c = 40 ∨ c = 41 := by
          intro us
          induction us with
          | nil => intro _ c hc; simp [strL] at hc
          | cons u us ih2 =>
            intro hs c hc
            rw [sizeL] at hs
            rw [strL] at hc
            rcases List.mem_append.mp hc with h1 | h1
            · exact ih u (by omega) c h1
            · exact ih2 (by omega) c h1
        unfold brk at hc
        rcases List.mem_cons.mp hc with rfl | hc
        · exact .inl rfl
        · rcases List.mem_append.mp hc with h1 | h1
          · exact hl ts (by omega) c h1
          · rw [List.mem_singleton] at h1; exact .inr h1
  exact both _ t (Nat.le_refl _)
theorem Read.len {u : Tx} {A : Ab} {inm : Option Nat} (R : Read u A inm) : A.length ≤ u.length := by
  rw [R.cnt]
  exact List.length_filter_le _ _
end KM


set_option Elab.async false
set_option linter.all false
set_option maxRecDepth 100000
namespace L2
open PySem PySem.Spec PyProof.Rows

end L2


set_option Elab.async false
set_option linter.all false
set_option maxRecDepth 100000
namespace KD
open PySem L2 KM PyProof.Rows
theorem mkS_list (t : Tx) : (mkS t).cps.toList = t := rfl
end KD


set_option linter.all false
namespace KM
mutual
theorem str_pre : ∀ (t t' : RT) (u u' : Tx), t.str ++ u = t'.str ++ u' → t = t' ∧ u = u'
  | .node ts, .node ts', u, u', h => by
    rw [RT.str, RT.str] at h
    unfold brk at h
    rw [List.cons_append, List.cons_append, List.append_assoc, List.append_assoc] at h
    obtain ⟨e1, e2⟩ := strL_pre ts ts' u u' (List.cons.inj h).2
    exact ⟨by rw [e1], e2⟩
theorem strL_pre : ∀ (ts ts' : List RT) (u u' : Tx), strL ts ++ ([41] ++ u) = strL ts' ++ ([41] ++ u') → ts = ts' ∧ u = u'
  | [], [], u, u', h => by
    rw [strL] at h
    exact ⟨rfl, (List.cons.inj h).2⟩
  | [], .node ss :: ts', u, u', h => by
    rw [strL, strL, RT.str] at h
    exact absurd (List.cons.inj h).1 (by decide)
  | .node ss :: ts, [], u, u', h => by
    rw [strL, strL, RT.str] at h
    exact absurd (List.cons.inj h).1 (by decide)
  | t :: ts, t' :: ts', u, u', h => by
    rw [strL, strL, List.append_assoc, List.append_assoc] at h
    obtain ⟨e1, e2⟩ := str_pre t t' _ _ h
    obtain ⟨e3, e4⟩ := strL_pre ts ts' u u' e2
    exact ⟨by rw [e1, e3], e4⟩
end
inductive Wl : RT → Prop
  | node {ts : List RT} : (∀ t ∈ ts, Wl t) → (ts.map RT.str).Pairwise (fun a b => a ≤ b) → Wl (.node ts)
def wStep (p : List (List Tx)) (c : Nat) : Option (List (List Tx)) :=
  if c = 40 then some ([] :: p) else if c = 41 then (match p with
    | inner :: outer :: r => if inner = srt inner then some ((outer ++ [brk inner.flatten]) :: r) else none
    | _ => none) else none
def ptx : List (List RT) → Tx
  | [] => []
  | [l] => strL l
  | l :: m :: r => ptx (m :: r) ++ 40 :: strL l
theorem strL_snoc : ∀ (l : List RT) (t : RT), strL (l ++ [t]) = strL l ++ t.str
  | [], t => by simp [strL]
  | s :: l, t => by rw [List.cons_append, strL, strL, strL_snoc l t, List.append_assoc]
theorem ptx_snoc (m : List RT) (t : RT) : ∀ r : List (List RT), ptx ((m ++ [t]) :: r) = ptx (m :: r) ++ t.str
  | [] => by rw [ptx, ptx, strL_snoc]
  | n :: r => by rw [ptx, ptx, strL_snoc, List.append_assoc, List.cons_append]
theorem ptx_close (l m : List RT) (r : List (List RT)) : ptx ((m ++ [.node l]) :: r) = ptx (l :: m :: r) ++ [41] := by
  rw [ptx_snoc, ptx, RT.str, List.append_assoc]
  rfl
theorem ptx_open (q : List (List RT)) (h : q ≠ []) : ptx ([] :: q) = ptx q ++ [40] := by
  cases q with
  | nil => exact absurd rfl h
  | cons m r => rw [ptx, strL]
structure WInv (v : Tx) (p : List (List Tx)) : Prop where
  ex : ∃ q : List (List RT), p = q.map (fun l => l.map RT.str) ∧ (∀ l ∈ q, ∀ t ∈ l, Wl t) ∧ v = ptx q ∧ q ≠ []
theorem WInv.nil : WInv [] [[]] := ⟨[[]], rfl, fun l hl t ht => by rw [List.mem_singleton.mp hl] at ht; exact (nomatch ht), rfl, (fun z => nomatch z)⟩
theorem WInv.step {v : Tx} {p p' : List (List Tx)} {c : Nat} (I : WInv v p) (h : wStep p c = some p') : WInv (v ++ [c]) p' := by
  obtain ⟨q, rfl, hw, rfl, hq⟩ := I.ex
  unfold wStep at h
  by_cases h40 : c = 40
  · rw [if_pos h40] at h
    cases h
    refine ⟨[] :: q, rfl, fun l hl t ht => ?_, by rw [ptx_open q hq, h40], fun z => nomatch z⟩
    rcases List.mem_cons.mp hl with rfl | hl
    · exact nomatch ht
    · exact hw l hl t ht
  · rw [if_neg h40] at h
    by_cases h41 : c = 41
    · rw [if_pos h41] at h
      cases q with
      | nil => exact absurd rfl hq
      | cons l q =>
        cases q with
        | nil => cases h
        | cons m r =>
          dsimp only [List.map] at h
          by_cases hs : l.map RT.str = srt (l.map RT.str)
          · rw [if_pos hs] at h
            cases h
            have wn : Wl (.node l) := .node (hw l List.mem_cons_self) (by rw [hs]; exact srt_pw _)
            refine ⟨(m ++ [.node l]) :: r, ?_, fun l' hl t ht => ?_, by rw [ptx_close, h41], fun z => nomatch z⟩
            · rw [List.map_cons, List.map_append, ← strL_flat]
              rfl
            · rcases List.mem_cons.mp hl with rfl | hl
              · rcases List.mem_append.mp ht with ht | ht
                · exact hw m (List.mem_cons_of_mem _ List.mem_cons_self) t ht
                · rw [List.mem_singleton.mp ht]; exact wn
              · exact hw l' (List.mem_cons_of_mem _ (List.mem_cons_of_mem _ hl)) t ht
          · rw [if_neg hs] at h
            cases h
    · rw [if_neg h41] at h
      cases h
inductive Chain (A : Ab) : Option Nat → Nat → Prop
  | nil : Chain A none 0
  | cons {k : Nat} {p : Option Nat} {n : Nat} : A[k]? = some p → Chain A p n → Chain A (some k) (n + 1)
theorem Chain.app {A : Ab} {x : Option Nat} {n : Nat} (z : Option Nat) (h : Chain A x n) : Chain (A ++ [z]) x n := by
  induction h with
  | nil => exact .nil
  | cons e _ ih => exact .cons (by rw [List.getElem?_append_left (List.getElem?_eq_some_iff.mp e).1]; exact e) ih
structure NInv (v : Tx) (A : Ab) (inm : Option Nat) : Prop where
  ex : ∃ q : List (List RT), v = ptx q ∧ q ≠ [] ∧ Chain A inm (q.length - 1) ∧ ((inm = none ∧ A = [] ∧ q = [[]]) ∨ (inm = none ∧ A ≠ [] ∧ ∃ T, q = [[T]]) ∨ (inm ≠ none ∧ q.getLast? = some []))
theorem NInv.nil : NInv [] [] none := ⟨[[]], rfl, (fun z => nomatch z), .nil, .inl ⟨rfl, rfl, rfl⟩⟩
theorem NInv.step {v : Tx} {A A' : Ab} {inm inm' : Option Nat} {c : Nat} (I : NInv v A inm) (h : nkStep (A, inm) c = some (A', inm')) : NInv (v ++ [c]) A' inm' := by
  obtain ⟨q, rfl, hq, hc, hcase⟩ := I.ex
  unfold nkStep at h
  by_cases h40 : c = 40
  · rw [if_pos h40] at h
    by_cases hbad : inm = none ∧ A ≠ []
    · rw [if_pos hbad] at h; cases h
    · rw [if_neg hbad] at h
      have e := Option.some.inj h
      have e1 : A ++ [inm] = A' := congrArg Prod.fst e
      have e2 : some A.length = inm' := congrArg Prod.snd e
      subst e1 e2
      refine ⟨[] :: q, by rw [ptx_open q hq, h40], (fun z => nomatch z), ?_, .inr (.inr ⟨(fun z => nomatch z), ?_⟩)⟩
      · have hl : ([] :: q).length - 1 = (q.length - 1) + 1 := by
          cases q with
          | nil => exact absurd rfl hq
          | cons l q => simp
        rw [hl]
        exact .cons (by rw [List.getElem?_append_right (Nat.le_refl _), Nat.sub_self]; rfl) (hc.app _)
      · rcases hcase with ⟨_, _, rfl⟩ | ⟨hi, hA, _⟩ | ⟨_, hl⟩
        · rfl
        · exact absurd ⟨hi, hA⟩ hbad
        · cases q with
          | nil => exact absurd rfl hq
          | cons l q => rw [List.getLast?_cons_cons]; exact hl
  · rw [if_neg h40] at h
    by_cases h41 : c = 41
    · rw [if_pos h41] at h
      cases inm with
      | none => cases h
      | some k =>
        have e := Option.some.inj h
        have e1 : A = A' := congrArg Prod.fst e
        have e2 : (A[k]?).getD none = inm' := congrArg Prod.snd e
        subst e1 e2
        rcases hcase with ⟨z, _⟩ | ⟨z, _⟩ | ⟨_, hl⟩
        · cases z
        · cases z
        cases q with
        | nil => exact absurd rfl hq
        | cons l q =>
          cases q with
          | nil => cases hc
          | cons m r =>
            rw [show (l :: m :: r).length - 1 = r.length + 1 by simp] at hc
            cases hc with
            | @cons _ p _ ek hc =>
              rw [ek]
              refine ⟨(m ++ [.node l]) :: r, by rw [ptx_close, h41], (fun z => nomatch z), hc, ?_⟩
              have hA : A ≠ [] := fun z => by rw [z] at ek; cases ek
              cases r with
              | nil =>
                have hm : m = [] := by simpa using hl
                subst hm
                show ((p = none ∧ _) ∨ (p = none ∧ _) ∨ _)
                cases hc
                exact .inr (.inl ⟨rfl, hA, .node l, rfl⟩)
              | cons n r =>
                refine .inr (.inr ⟨?_, ?_⟩)
                · show p ≠ none
                  intro z
                  rw [z] at hc
                  cases hc
                · rw [List.getLast?_cons_cons] at hl ⊢
                  rw [List.getLast?_cons_cons] at hl
                  exact hl
    · rw [if_neg h41] at h; cases h
end KM


set_option Elab.async false
set_option linter.all false
set_option maxRecDepth 100000
namespace L2
open PySem PySem.Spec PyProof.Rows

section
variable {P : Program} {w : World} {H H' : Hp} {h h' h0 h1 h2 : Heap} {a : Addr} {o : HO} {l : List Env}
theorem ObjOk.ex (x : ObjOk P w H h a o) : ∃ ob, h.get? a = some ob := by
  cases o with
  | lst xs => obtain ⟨_, _, _, _, e⟩ := x; exact ⟨_, e⟩
  | tup xs => obtain ⟨_, _, _, ob, e, _⟩ := x; exact ⟨ob, e⟩
  | dK kvs => obtain ⟨_, _, _, _, ob, _, _, e, _⟩ := x; exact ⟨ob, e⟩
  | dT kvs => obtain ⟨_, _, _, _, ob, _, _, e, _⟩ := x; exact ⟨ob, e⟩
  | set S n => obtain ⟨ob, _, _, _, e, _⟩ := x; exact ⟨ob, e⟩
  | ins C dx fs => obtain ⟨_, _, _, e, _⟩ := x; exact ⟨_, e⟩
  | own y => exact x
  | xd fs => obtain ⟨_, ⟨ob, _, _, e, _⟩, _⟩ := x; exact ⟨ob, e⟩
  | rng lo hi => obtain ⟨_, _, _, e⟩ := x; exact ⟨_, e⟩
  | frz ob u => obtain ⟨e, _⟩ := x; exact ⟨ob, e⟩
  | tbl ps => exact ⟨_, x⟩
  | met f y => exact ⟨_, x⟩
  | ext φ => obtain ⟨_, z, _⟩ := x; exact z
theorem un_fly (u : Un (frs l) [] H H' h0 h1) (hok : HOk P w H' h1) (frf : ∀ b ∈ frs l, H' b = none)
    (ka : ∀ b ob, h1.get? b = some ob → b ∉ frs l → ((∃ o0, h0.get? b = some o0) ∨ H' b ≠ none) → h2.get? b = some ob)
    (kb : ∀ b ∈ frs l, ∀ ob, h1.get? b = some ob → ∃ sl, h2.get? b = some { ob with slots := sl }) : Un (frs l) [] H H' h0 h2 ∧ HOk P w H' h2 := by
  refine ⟨⟨fun b ob e n hb hx => ka b ob (u.keep b ob e n hb hx) hb (.inl ⟨_, e⟩), fun b ob e n hb hx => ?_, u.free, fun b ob e hx => ?_, u.tups, u.frzs, u.tbls⟩, fun b u' e => ?_⟩
  · obtain ⟨sl, e1⟩ := u.slot b ob e n hb hx
    obtain ⟨sl2, e2⟩ := kb b hb _ e1
    exact ⟨sl2, e2⟩
  · obtain ⟨o1, e1⟩ := u.there b ob e hx
    by_cases hb : b ∈ frs l
    · obtain ⟨sl, e2⟩ := kb b hb _ e1
      exact ⟨_, e2⟩
    · exact ⟨_, ka b o1 e1 hb (.inl ⟨_, e⟩)⟩
  · refine (hok b u' e).stay (fun c v hc q => ?_) (fun _ q => q) fun _ _ q => q
    have hn : H' c ≠ none := by
      rcases hc with z | z
      · rw [z, e]; exact fun y => nomatch y
      · rw [z]; exact fun y => nomatch y
    exact ka c v q (fun hb => hn (frf c hb)) (.inr hn)
end

def CXe (P : Program) (w : World) : CXT := fun outer H s E e s' => ∃ (a : Addr) (cls a0 : Value) (H' : Hp) (B : Heap), e = .ref a ∧ s'.os = s.os ∧ AllBare s'.gens ∧ Un (frs outer) [] H H' s.heap s'.heap ∧ HOk P w H' s'.heap ∧
  (∀ b ∈ frs outer, H' b = none) ∧ Heap.FlyingW B outer a cls a0 s'.heap ∧ (∀ b ob, s'.heap.get? b = some ob → b ∉ frs outer → ((∃ o0, s.heap.get? b = some o0) ∨ H' b ≠ none) → B.get? b = some ob) ∧ E cls none H'
def XRaise (X : Cx) (E : XK) : Prop := ∀ (pins : List (Addr × Obj)) (σ : St) (H : Hp) (s : Shared) (h2 : Heap) (e : Addr) (cls : Value) (vs : List Value), Inv X pins σ H s → Heap.MadeExcOf s.heap h2 e cls vs → E cls none H → X.xe (.ref e) { s with heap := h2 }

section
variable {P : Program} {w : World} {K : PySem.W.Frag} {mg : Str → Option Value} {base : Heap} {N : List Str} {qual : Str} {scope : Scope} {f : Addr} {cd : Value} {A : Around} {outer : List Env} {s : Shared} {H : Hp} {E : XK}
theorem Inv.outFree {X : Cx} {pins : List (Addr × Obj)} {σ : St} {H1 : Hp} {s1 : Shared} (I : Inv X pins σ H1 s1) : ∀ b ∈ X.fs, H1 b = none := fun b hb => by
  obtain ⟨_, ob, ho, _⟩ := I.ok.funs.mem hb
  exact I.base.free b ob ho (I.ok.frf b hb) fun z => I.ok.exfs b z hb
theorem xraise : XRaise (cxOf (CXe P w) P w K mg base N qual scope f cd A outer s H E) E := by
  intro pins σ H1 s1 h2 e cls vs I hx hE
  have hst : (cxOf (CXe P w) P w K mg base N qual scope f cd A outer s H E).stack = envOfC qual scope s.heap.objs.size f cd :: outer := rfl
  have hin : ∀ env ∈ (envOfC qual scope s.heap.objs.size f cd :: outer), ∀ b, env.frame = some b → b ∈ frs (envOfC qual scope s.heap.objs.size f cd :: outer) := fun env he b hb => List.mem_filterMap.mpr ⟨env, he, hb⟩
  have hfu : s1.heap.FunFrames base (envOfC qual scope s.heap.objs.size f cd :: outer) := I.stack
  have hL : ∀ b ∈ frs (envOfC qual scope s.heap.objs.size f cd :: outer), b = s.heap.objs.size ∨ b ∈ frs outer := fun b hb => List.mem_cons.mp (I.stkSub b hb)
  have frf : ∀ b ∈ frs outer, H1 b = none := I.outFree
  have hfree : ∀ b ∈ frs (envOfC qual scope s.heap.objs.size f cd :: outer), H1 b = none := I.stkFree
  refine wpAny_leaves_madeW (base := PySem.W.hideAll s1.heap (frs (envOfC qual scope s.heap.objs.size f cd :: outer))) (L := s.heap.objs.size) (h := s1.heap) I.ok.frames rfl (fun b ob q => PySem.W.of_hideAll _ q) (PySem.W.funFrames_hide hfu hin) hx fun h' t x1 x2 x3 x4 => ?_
  have hun : Un (frs outer) [] H H1 s.heap s1.heap := I.base
  have ka : ∀ b ob, s1.heap.get? b = some ob → b ∉ frs outer → ((∃ o0, s.heap.get? b = some o0) ∨ H1 b ≠ none) → (PySem.W.hideAll s1.heap (frs (envOfC qual scope s.heap.objs.size f cd :: outer))).get? b = some ob := by
    intro b ob q hb hc
    refine PySem.W.hideAll_get _ q fun hm => ?_
    rcases hL b hm with z | z
    · rcases hc with ⟨o0, h0⟩ | hn
      · rw [z] at h0
        exact absurd (Heap.lt_size h0) (Nat.lt_irrefl _)
      · exact hn (hfree b hm)
    · exact hb z
  have z := un_fly hun I.hok frf (fun b ob q hb hc => x1.1 b ob (ka b ob q hb hc)) (fun b hb ob q => by
    obtain ⟨_, o', ho', hnf⟩ := I.funs.mem hb
    rw [q] at ho'
    cases ho'
    exact x4 b ob (hx.keeps b ob q) hnf)
  refine ⟨e, cls, .ref t, H1, _, rfl, I.os, I.bare, z.1, z.2, frf, x1, fun b ob q hb hc => ?_, hE⟩
  have hs1 : ∃ o1, s1.heap.get? b = some o1 := by
    rcases hc with ⟨o0, h0⟩ | hn
    · exact I.base.there b o0 h0 (fun z => absurd (show b ∈ ([] : List Addr) from z) (by simp))
    · cases q1 : H1 b with
      | none => exact absurd q1 hn
      | some u' => exact (I.hok b u' q1).ex
  obtain ⟨o1, q1⟩ := hs1
  have h3 := ka b o1 q1 hb hc
  have h4 := x1.1 b o1 h3
  rw [q] at h4
  cases h4
  exact h3
theorem passX : Passes (CXe P w) (cxOf (CXe P w) P w K mg base N qual scope f cd A outer s H E) E := by
  intro pins σ H1 s1 e s' I hcx
  obtain ⟨a, cls, a0, H', B, rfl, os, bare, un, hok, frf, hfl, cov, hE⟩ := hcx
  have I' : Inv (cxOf (CXe P w) P w K mg base N qual scope f cd A outer s H E) pins σ H' s' := I.call' (ch := []) os un hok bare (fun b z => absurd z (by simp))
  have hfree : ∀ b ∈ frs (envOfC qual scope s.heap.objs.size f cd :: outer), H' b = none := I'.stkFree
  have hL : ∀ b ∈ frs (envOfC qual scope s.heap.objs.size f cd :: outer), b = s.heap.objs.size ∨ b ∈ frs outer := fun b hb => List.mem_cons.mp (I'.stkSub b hb)
  refine wpAny_leaves_onW (L := s.heap.objs.size) I.ok.frames rfl hfl fun h' x1 x2 => ?_
  have hun : Un (frs outer) [] H H' s.heap s'.heap := I'.base
  have old : ∀ b, b ∉ frs outer → ((∃ o0, s.heap.get? b = some o0) ∨ H' b ≠ none) → b ∉ frs (envOfC qual scope s.heap.objs.size f cd :: outer) ∧ ((∃ o0, s1.heap.get? b = some o0) ∨ H' b ≠ none) := by
    intro b hb hc
    refine ⟨fun hm => ?_, ?_⟩
    · rcases hL b hm with z | z
      · rcases hc with ⟨o0, h0⟩ | hn
        · rw [z] at h0
          exact absurd (Heap.lt_size h0) (Nat.lt_irrefl _)
        · exact hn (hfree b hm)
      · exact hb z
    · rcases hc with ⟨o0, h0⟩ | hn
      · exact .inl (I.base.there b o0 h0 (fun z => absurd (show b ∈ ([] : List Addr) from z) (by simp)))
      · exact .inr hn
  have ka : ∀ b ob, s'.heap.get? b = some ob → b ∉ frs outer → ((∃ o0, s.heap.get? b = some o0) ∨ H' b ≠ none) → B.get? b = some ob := fun b ob q hb hc => cov b ob q (old b hb hc).1 (old b hb hc).2
  have z := un_fly hun hok I'.outFree (fun b ob q hb hc => x1.1 b ob (ka b ob q hb hc)) (fun b hb ob q => by
    obtain ⟨_, o', ho', hnf⟩ := I'.funs.mem hb
    rw [q] at ho'
    cases ho'
    exact x2 b ob q hnf)
  refine ⟨a, cls, a0, H', B, rfl, I'.os, bare, z.1, z.2, I'.outFree, x1, fun b ob q hb hc => ?_, hE⟩
  have hs1 : ∃ o1, s'.heap.get? b = some o1 := by
    rcases hc with ⟨o0, h0⟩ | hn
    · exact I'.base.there b o0 h0 (fun z => absurd (show b ∈ ([] : List Addr) from z) (by simp))
    · cases q1 : H' b with
      | none => exact absurd q1 hn
      | some u' => exact (hok b u' q1).ex
  obtain ⟨o1, q1⟩ := hs1
  have h3 := ka b o1 q1 hb hc
  have h4 := x1.1 b o1 h3
  rw [q] at h4
  cases h4
  exact h3
theorem ownX : PassesOwn (model (cxOf (CXe P w) P w K mg base N qual scope f cd A outer s H E).prog (cxOf (CXe P w) P w K mg base N qual scope f cd A outer s H E).w) (cxOf (CXe P w) P w K mg base N qual scope f cd A outer s H E).A
    (cxOf (CXe P w) P w K mg base N qual scope f cd A outer s H E).env (cxOf (CXe P w) P w K mg base N qual scope f cd A outer s H E).xe := PassesOwn.leaving
theorem Fun.okX {x : Str} {st : Stmt} {fd : FuncData} {ps : List Str} {k : Nat} {sp : Sp} (F : Fun K x qual st f fd) (S : FnScope N ps (defScope st)) (len : ∀ vs H Q E, sp vs H Q E → vs.length = ps.length)
    (hbody : ∀ (cdv : Value) (A : Around) (outer : List Env) (s : Shared) (H : Hp) (vs : List V) (Q : VK) (E : XK), Room k (A.deeper (envOfC qual (defScope st) s.heap.objs.size f cdv)) → sp vs H Q E →
      ∃ t, PSs (cxOf (CXe P w) P w K mg base N qual (defScope st) f cdv A outer s H E) (defBody st) t ∧ t { nx := fun _ H' => Q .non H', rt := Q } (start N vs) H) : FnOk P w K mg base (CXe P w) (k + 1) f fd ps sp := by
  obtain ⟨oc, od, kV, doc, pm, an, cdv, ct, osl, rfl, lk, hcd⟩ := F.ex
  exact fn_of lk hcd S len fun A outer s H vs Q E hr hsp => hbody cdv A outer s H vs Q E hr hsp
theorem FnOk.calm {k : Nat} {fd : FuncData} {ps : List Str} {sp : Sp} (F : FnOk P w K mg base CX0 k f fd ps sp) : FnOk P w K mg base (CXe P w) k f fd ps sp :=
  ⟨F.len, fun A outer s H args us vs Q E hr e0 hb hv hs => codeAny_mono (F.run A outer s H args us vs Q E hr e0 hb hv hs) fun r s' hq => by
    cases r with
    | error e => exact (show False from hq).elim
    | ok fl => cases fl <;> exact hq⟩
end
end L2


set_option Elab.async false
set_option linter.all false
set_option maxRecDepth 100000
namespace L2
open PySem PySem.Spec PyProof.Rows PySem.Builtin PySem.Builtin.ObjectAttr PySem.Builtin.Getset_descriptor
abbrev veMro : List Value := [.type "ValueError", .type "Exception", .type "BaseException", .type "object"]
structure XC (K : PySem.W.Frag) (C : Addr) : Prop where
  ex : PySem.W.excIn K C veMro "ValueError.__new__" = true
  ga : PySem.W.findIn K (.ref C) "__getattribute__" = some (some (.builtin "BaseException.__getattribute__"))
  gn : PySem.W.findIn K (.ref C) "__getattr__" = some none
  dc : PySem.W.hasDictIn K C = true
  ca : PySem.W.findIn K (.ref C) "__class__" = some (some (.builtin "object.__class__"))
  cg : PySem.W.specialIn K (.builtin "object.__class__") "__get__" = some (some (.builtin "getset_descriptor.__get__"))
  ct : PySem.W.takesIn K (.builtin "object.__class__") = some true
  mo : PySem.W.mroIn K C (.type "object") = some true
  mb : PySem.W.mroIn K C (.type "BaseException") = some true
section
variable {prog : Program} {w : World} {A : Around} {E : Value → Shared → Prop} {s : Shared} {K : PySem.W.Frag} {x C : Addr} {ox : Obj}
theorem XC.cls (c : XC K C) : ∃ cd, PySem.W.clsIn K C = some cd := by
  obtain ⟨cd, h, _⟩ := PySem.W.any_some c.dc
  exact ⟨cd, h⟩
def XAt (h : Heap) (x C : Addr) : Prop := ∃ o, h.get? x = some o ∧ o.cls = .ref C
theorem XAt.type {M : Model} {h : Heap} (I : XAt h x C) : PySem.W.Looks M h (typeOf (.ref x)) (.ref C) := by
  obtain ⟨o, e, q⟩ := I
  rw [← q]
  exact (PySem.W.Looks.ld e).andThen .now
end
end L2


set_option Elab.async false
set_option linter.all false
set_option maxRecDepth 100000
namespace L2
open PySem PySem.Spec PyProof.Rows
section
variable {X : Cx} {t : TA} {E : XK} {x : Str} {C : Addr}
theorem XC.obj {K : PySem.W.Frag} {h : Heap} (c : XC K C) (Y : K.In h) : ∃ bm N nm q bs hdct sn sub ab col dd k0 k1 k2 k3 k5 mN, h.get? C = some (excClassObj nm q C N bs bm hdct sn sub ab col dd k0 k1 k2 k3 k5 "ValueError.__new__") ∧ h.Ns N mN ∧ mN "__init__" = none ∧ OwnTail h veMro bm := by
  have q := c.ex
  unfold PySem.W.excIn at q
  split at q
  · rename_i dd cd sl ho
    split at q
    · rename_i C' bm k0 k1 k2 k3 n k5 hm hs
      simp only [Bool.and_eq_true, beq_iff_eq, Bool.not_eq_true'] at q
      obtain ⟨⟨⟨⟨⟨e1, e2⟩, hdel⟩, ht⟩, hok⟩, hni⟩ := q
      subst e1
      subst e2
      obtain ⟨nm, bs, mro, ns, qn, hd, sn, sub, ab, col, del⟩ := cd
      dsimp only at hm hdel hok hni
      subst hm
      subst hdel
      obtain ⟨l⟩ := sl
      dsimp only at hs
      subst hs
      exact ⟨bm, ns, nm, qn, bs, hd, sn, sub, ab, col, dd, k0, k1, k2, k3, k5, _, Y _ _ ho, .of_isNs (PySem.W.isNs_of_in Y hok), PySem.W.nsMap_none_of_in Y hok hni, PySem.W.tail_of_in Y ht⟩
    · cases q
  · cases q
def tRaise (C : Addr) (E : XK) (t : TA) : TS := fun _ σ H => t σ H fun vs H1 => vs.length ≤ sizeLine ∧ E (.ref C) none H1
theorem ps_raise {e : Expr} {es : List Expr} {np cpos pos : Pos} (c : XC X.K C) (hc : X.calm = true) (hx : XRaise X E) (hg : Gl X x) (hm : X.mg x = some (.ref C)) (ha : PA X (e :: es) t)
    (hd : (x == ("__debug__" : Str)) = false := by decide) (he : starEach (e :: es) X.env = (false, eval e X.env) :: starEach es X.env := by rfl) (hpl : (backTo cpos (starEach (e :: es) X.env)).any (·.1) = false := by rfl) :
    PS X (.Raise (some (.Call (.Name x np) (e :: es) [] cpos)) none pos) (tRaise C E t) := by
  intro pins s σ H D I h
  obtain ⟨bm, N, nm, q, bs, hdct, sn, sub, ab, col, dd, k0, k1, k2, k3, k5, mN, hC, hN, hni, T⟩ := c.obj (h := X.base) I.ok.mod.kin
  refine wpAny_Raise_call_subT (C := C) (nm := nm) (q := q) (N := N) (bs := bs) (bm := bm) (hdct := hdct) (sn := sn) (sub := sub) (ab := ab) (col := col) (dd := dd) (k0 := k0) (k1 := k1) (k2 := k2) (k3 := k3) (k5 := k5) (mN := mN) PySem.F.excBase_ValueError (T.hasType rfl) (I.ok.hd hc) hpl hni (ld_glob I hg hm ⟨rfl, ?_⟩ hd)
  have hp := ha cpos pins s σ H _ I h
  rw [he] at hp ⊢
  refine Calls.evalArgs_plain (thn hp fun us s1 ⟨vs, H1, I1, r, hl, q1⟩ => ?_)
  exact ⟨rfl, by rw [← r.length]; exact hl, I1.bk _ _ hC, hN.keeps I1.bk, T.keeps I1.bk, fun h' e' hx' => hx pins σ H1 s1 h' e' (.ref C) us I1 hx' q1⟩
end

structure Fly (X : Cx) (pins : List (Addr × Obj)) (σ : St) (H : Hp) (s : Shared) (H' : Hp) (a : Addr) (cls : Value) (B : Heap) (s' : Shared) : Prop where
  inv : Inv X pins σ H s
  os : s'.os = s.os
  bare : AllBare s'.gens
  un : Un (frs X.stack) [] H H' s.heap s'.heap
  hok : HOk X.prog X.w H' s'.heap
  fl : ∃ a0, Heap.FlyingW B X.stack a cls a0 s'.heap
  cov : ∀ b ob, s'.heap.get? b = some ob → b ∉ frs X.stack → ((∃ o0, s.heap.get? b = some o0) ∨ H' b ≠ none) → B.get? b = some ob
section
variable {X : Cx} {pins : List (Addr × Obj)} {σ : St} {H H' : Hp} {s s' : Shared} {a : Addr} {cls : Value} {B h2 : Heap} {E : XK}
theorem Fly.now (F : Fly X pins σ H s H' a cls B s') : Inv X pins σ H' s' := F.inv.call' (ch := []) F.os F.un F.hok F.bare fun b z => absurd z (by simp)
theorem Fly.there (F : Fly X pins σ H s H' a cls B s') {b : Addr} (h : (∃ o0, s.heap.get? b = some o0) ∨ H' b ≠ none) : ∃ o1, s'.heap.get? b = some o1 := by
  rcases h with ⟨o0, h0⟩ | hn
  · exact F.un.there b o0 h0 (fun z => absurd (show b ∈ ([] : List Addr) from z) (by simp))
  · cases q : H' b with
    | none => exact absurd q hn
    | some u => exact (F.hok b u q).ex
theorem Fly.turn (F : Fly X pins σ H s H' a cls B s') {a0 : Value} (fl : Heap.FlyingW B X.stack a cls a0 h2) (sm : s'.heap.UpToSlots h2) : Fly X pins σ H s H' a cls B { s' with heap := h2 } := by
  have ka : ∀ b ob, s'.heap.get? b = some ob → b ∉ frs X.stack → ((∃ o0, s.heap.get? b = some o0) ∨ H' b ≠ none) → h2.get? b = some ob := fun b ob q hb hc => fl.1 b ob (F.cov b ob q hb hc)
  have z := un_fly F.un F.hok F.now.stkFree ka (fun b hb ob q => by
    obtain ⟨_, o', ho', hnf⟩ := F.now.stack.mem hb
    rw [q] at ho'
    cases ho'
    exact sm b ob q hnf)
  refine ⟨F.inv, F.os, F.bare, z.1, z.2, ⟨a0, fl⟩, fun b ob q hb hc => ?_⟩
  obtain ⟨o1, q1⟩ := F.there hc
  have h3 := F.cov b o1 q1 hb hc
  have h4 := fl.1 b o1 h3
  have h5 : h2.get? b = some ob := q
  rw [h5] at h4
  cases h4
  exact h3
theorem Fly.of {e : Value} (I : Inv X pins σ H s) (h : CXe X.prog X.w X.stack H s E e s') : ∃ a cls H' B, e = .ref a ∧ Fly X pins σ H s H' a cls B s' ∧ E cls none H' := by
  obtain ⟨a, cls, a0, H', B, e1, os, bare, un, hok, frf, hfl, cov, hE⟩ := h
  exact ⟨a, cls, H', B, e1, ⟨I, os, bare, un, hok, ⟨a0, hfl⟩, cov⟩, hE⟩
theorem Fly.new (F : Fly X pins σ H s H' a cls B s') : s.heap.get? a = none ∧ H' a = none := by
  obtain ⟨a0, f1, f2, f3, oe, vs, T, oT, ts, he, hc, hd, _⟩ := F.fl
  have nf : a ∉ frs X.stack := fun hm => by
    obtain ⟨_, o', ho', hnf⟩ := F.now.stack.mem hm
    rw [he] at ho'
    cases ho'
    exact hnf _ hd
  have key : ¬ ((∃ o0, s.heap.get? a = some o0) ∨ H' a ≠ none) := fun hc => by
    have := F.cov a oe he nf hc
    rw [f2] at this
    cases this
  constructor
  · cases q : s.heap.get? a with
    | none => rfl
    | some o => exact absurd (.inl ⟨o, q⟩) key
  · cases q : H' a with
    | none => rfl
    | some u => exact absurd (.inr (by rw [q]; exact fun z => nomatch z)) key
end
end L2


set_option Elab.async false
set_option linter.all false
set_option maxRecDepth 100000
namespace L2
open PySem PySem.Spec PyProof.Rows
abbrev RX := Value → Hp → Prop
abbrev TEx := St → Hp → VK → RX → Prop
abbrev RS := Value → St → Hp → Prop
abbrev TH := Ends → RS
def XP (X : Cx) (pins : List (Addr × Obj)) (σ : St) (R : RX) (x : Value) (s' : Shared) : Prop := ∃ a cls H s H' B, x = .ref a ∧ Fly X pins σ H s H' a cls B s' ∧ R cls H'
section
variable {X : Cx} {k : Nat} {f C : Addr} {fd : FuncData} {ps : List Str} {sp : Sp} {dvs : List V} {ds : List Value} {x : Str} {p pos : Pos} {e : Expr} {es : List Expr} {t : TA} {te : TEx}
end
section
variable {X : Cx} {pins : List (Addr × Obj)} {σ : St} {H : Hp} {s : Shared} {a : Addr}
end
structure CN (X : Cx) (x : Str) (c : Value) : Prop where
  gl : Gl X x
  is : X.mg x = some c ∨ (X.mg x = none ∧ bootBuiltins x = some c ∧ x ≠ "__name__")
section
variable {X : Cx} {x n : Str} {c : Value} {np pos : Pos} {b₀ : Stmt} {su : List Stmt} {rest : List ExceptHandler} {ts : TS} {tr : TH}
theorem Fly.type {M : Model} {pins : List (Addr × Obj)} {σ : St} {H H' : Hp} {s s' : Shared} {a : Addr} {cls : Value} {B : Heap} (F : Fly X pins σ H s H' a cls B s') : PySem.W.Looks M s'.heap (typeOf (.ref a)) cls := by
  obtain ⟨a0, fl⟩ := F.fl
  obtain ⟨ob, hob, hc⟩ := fl.there
  subst hc
  exact (PySem.W.Looks.ld hob).andThen .now
end
end L2


set_option Elab.async false
set_option linter.all false
set_option maxRecDepth 100000
namespace L2
open PySem PySem.Spec PyProof.Rows
section
variable {X : Cx}
end
end L2


set_option Elab.async false
set_option linter.all false
set_option maxRecDepth 100000
namespace PySem
section
variable {prog : Program} {w : World} {A : Around} {E : Value → Shared → Prop} {s : Shared}
end
end PySem
namespace L2
open PySem PySem.Spec PyProof.Rows
section
variable {X : Cx}
def eqL (xs ys : List V) : Bool := xs.length == ys.length && (List.range xs.length).all fun j => eqV (xs.getD j .non) (ys.getD j .non)
def rCmpL (K : PySem.W.Frag) (neg : Bool) : R2 := fun x y H Q => ∃ a b xs ys, x = .ref a ∧ y = .ref b ∧ SqL K H a xs ∧ SqL K H b ys ∧ xs.all flatV = true ∧ ys.all flatV = true ∧ Q (.bl (if neg then !eqL xs ys else eqL xs ys)) H
theorem eq_each {A : Around} {s : Shared} {xs ys : List V} {us ws : List Value} (r : Vals xs us) (r2 : Vals ys ws) (f1 : xs.all flatV = true) (f2 : ys.all flatV = true) :
    ∀ j (h1 : j < us.toArray.size) (h2 : j < ws.toArray.size), SeqAt.EqAt A s us.toArray[j] ws.toArray[j] (eqV (xs.getD j .non) (ys.getD j .non)) := by
  intro j h1 h2
  rw [List.size_toArray] at h1 h2
  have l1 := r.length
  have l2 := r2.length
  have hj : j < xs.length := by omega
  have hj2 : j < ys.length := by omega
  obtain ⟨u1, e1, q1⟩ := r.get (List.getElem?_eq_getElem hj)
  obtain ⟨u2, e2, q2⟩ := r2.get (List.getElem?_eq_getElem hj2)
  have e3 : us.toArray[j] = u1 := by
    rw [List.getElem?_eq_getElem h1] at e1
    simpa using Option.some.inj e1
  have e4 : ws.toArray[j] = u2 := by
    rw [List.getElem?_eq_getElem h2] at e2
    simpa using Option.some.inj e2
  rw [e3, e4]
  have g1 : xs.getD j .non = xs[j] := by simp [hj]
  have g2 : ys.getD j .non = ys[j] := by simp [hj2]
  rw [g1, g2]
  exact eqAt_V q1 q2 (List.all_eq_true.mp f1 _ (List.getElem_mem hj)) (List.all_eq_true.mp f2 _ (List.getElem_mem hj2))
theorem op_neL (hu : X.A.units < cLine) : OpR X (compareOp .NotEq) (rCmpL X.K true) := by
  intro pins s σ H x y v u Q I rx ry h
  obtain ⟨a, b, xs, ys, rfl, rfl, ha, hb, f1, f2, q⟩ := h
  cases rx
  cases ry
  obtain ⟨its, r, pl, _⟩ := I.list ha
  obtain ⟨its2, r2, pl2, _⟩ := I.list hb
  have l1 := r.length
  have l2 := r2.length
  by_cases hs : its.toArray.size = its2.toArray.size
  · refine SeqAt.RcNeAt.lists pl.isList pl2.isList hs hu (eq_each r r2 f1 f2) _ _ _ _ ⟨.bl (!eqL xs ys), H, I, ?_, q⟩
    rw [List.size_toArray, List.size_toArray] at hs
    show Value.bool _ = Value.bool _
    unfold eqL
    rw [List.size_toArray, show (xs.length == ys.length) = true from beq_iff_eq.mpr (by omega), Bool.true_and, ← l1]
  · refine SeqAt.RcNeAt.lists_lengths pl.isList pl2.isList (by simpa using hs) hu _ _ _ _ ⟨.bl (!eqL xs ys), H, I, ?_, q⟩
    rw [List.size_toArray, List.size_toArray] at hs
    show Value.bool _ = Value.bool _
    unfold eqL
    rw [show (xs.length == ys.length) = false from Bool.eq_false_iff.mpr fun z => hs (by have := beq_iff_eq.mp z; omega), Bool.false_and, Bool.not_false]
end
end L2


set_option Elab.async false
set_option linter.all false
set_option maxRecDepth 100000
namespace KD
open PySem L2 KM PyProof.Rows
structure KitE (P : Program) (w : World) (K : PySem.W.Frag) (mg : Str → Option Value) (base : Heap) (k : Nat) (x : Str) (ps : List Str) (sp : Sp) (f : Addr) (fd : FuncData) : Prop where
  ok : FnOk P w K mg base (CXe P w) k f fd ps sp
  bd : Binds K fd ps []
  kp : PySem.W.keepIn K (.ref f) = true
  mg : mg x = some (.ref f)
def Plain (t : Tx) : Prop := ∀ c ∈ t, c < 128
theorem Plain.all {t : Tx} (h : Plain t) : (mkS t).cps.all (· < 128) = true := by
  rw [← Array.all_toList, mkS_list, List.all_eq_true]
  intro c hc
  exact decide_eq_true (h c hc)
theorem Plain.one {c : Nat} (h : c < 128) : Plain [c] := fun d hd => by rw [List.mem_singleton.mp hd]; exact h
theorem Plain.str (t : RT) : Plain t.str := fun c hc => by rcases brackets t c hc with rfl | rfl <;> decide
def spAt (K : PySem.W.Frag) : Sp := fun vs H Q _ => ∃ (a : Addr) (ns : List Int) (k : Nat), vs = [.ref a, vN k] ∧ SqL K H a (ns.map V.int) ∧ ∀ (i : Int) (H' : Hp), Same H H' → Q (.int i) H'
end KD


set_option linter.all false
namespace KM
section
variable {ab : Ab} {r : Nat}
theorem idx_of {l : List Nat} (h : l.Nodup) {i k : Nat} (hi : l[i]? = some k) : l.idxOf k = i := by
  obtain ⟨h1, rfl⟩ := List.getElem?_eq_some_iff.mp hi
  exact h.idxOf_getElem i h1
theorem Bfs.tree (hroot : ab[r]? = some none) (only : ∀ j, ab[j]? = some none → j = r) (hin : ∀ (j p : Nat), ab[j]? = some (some p) → p < ab.length) {ord : List Nat} (B : Bfs ab r ord ord.length) (hw : ord.length = ab.length) :
    Tree ab r (fun k => ord.idxOf k) := by
  have mem : ∀ k, k < ab.length → k ∈ ord := by
    intro k hk
    refine Classical.byContradiction fun hn => ?_
    have nd : (k :: ord).Nodup := List.nodup_cons.mpr ⟨hn, B.nd⟩
    have h := nd.length_le_of_subset (l₂ := List.range ab.length) fun j hj => List.mem_range.mpr (by
      rcases List.mem_cons.mp hj with e | e
      · rw [e]; exact hk
      · exact B.lt j e)
    rw [List.length_range, List.length_cons] at h
    omega
  refine ⟨hroot, only, fun j p h => ⟨hin j p h, ?_⟩, fun j hj => ?_⟩
  · obtain ⟨i, hi⟩ := List.mem_iff_getElem?.mp (mem p (hin j p h))
    obtain ⟨j', hj', he⟩ := B.late i p j (List.getElem?_eq_some_iff.mp hi).1 hi (mem_kids.mpr h)
    show ord.idxOf p < ord.idxOf j
    rw [idx_of B.nd hi, idx_of B.nd he]
    exact hj'
  · show ord.idxOf j < ab.length
    have := List.idxOf_lt_length_of_mem (mem j hj)
    omega
theorem roots_one {r : Nat} : rootsTo ab ab.length = [r] ↔ ab[r]? = some none ∧ ∀ j, ab[j]? = some none → j = r := by
  constructor
  · intro h
    have hm : ∀ j, j ∈ rootsTo ab ab.length ↔ ab[j]? = some none := fun j => by
      unfold rootsTo
      rw [List.mem_filter, List.mem_range]
      constructor
      · intro z; exact eq_of_beq z.2
      · intro z; exact ⟨(List.getElem?_eq_some_iff.mp z).1, by rw [z]; exact beq_self_eq_true _⟩
    rw [h] at hm
    exact ⟨(hm r).mp (by simp), fun j hj => by simpa using (hm j).mpr hj⟩
  · rintro ⟨h1, h2⟩
    refine List.perm_singleton.mp ((List.perm_ext_iff_of_nodup (List.Pairwise.sublist List.filter_sublist List.nodup_range) (by simp)).mpr fun j => ?_)
    rw [List.mem_singleton, List.mem_filter, List.mem_range]
    constructor
    · intro h; exact h2 j (eq_of_beq h.2)
    · rintro rfl
      exact ⟨(List.getElem?_eq_some_iff.mp h1).1, by rw [h1]; exact beq_self_eq_true _⟩
end
abbrev AI := List (Option Int)
def toI (o : Option Nat) : Option Int := o.map fun k => (k : Int)
def ofI (o : Option Int) : Option Nat := o.map Int.toNat
theorem ofI_toI (o : Option Nat) : ofI (toI o) = o := by cases o <;> simp [ofI, toI]
def Root1 (A : AI) (r : Nat) : Prop := A[r]? = some none ∧ ∀ j, A[j]? = some none → j = r
def InR (A : AI) : Prop := ∀ (j : Nat) (i : Int), A[j]? = some (some i) → 0 ≤ i ∧ i < A.length
def Rtd (A : AI) : Prop := ∃ (ab : Ab) (r : Nat) (rk : Nat → Nat), A = ab.map toI ∧ Tree ab r rk
theorem none_of {A : AI} {j : Nat} : (A.map ofI)[j]? = some none ↔ A[j]? = some none := by
  rw [List.getElem?_map]
  cases A[j]? with
  | none => simp
  | some o => cases o <;> simp [ofI]
theorem Root1.of {A : AI} {r : Nat} : Root1 A r ↔ (A.map ofI)[r]? = some none ∧ ∀ j, (A.map ofI)[j]? = some none → j = r := by
  unfold Root1
  rw [none_of]
  exact and_congr_right fun _ => forall_congr' fun j => by rw [none_of]
theorem InR.back {A : AI} (h : InR A) : A = (A.map ofI).map toI := by
  rw [List.map_map]
  refine (List.map_id A).symm.trans (List.map_congr_left fun o ho => ?_)
  obtain ⟨j, hj⟩ := List.mem_iff_getElem?.mp ho
  cases o with
  | none => rfl
  | some i =>
    have := (h j i hj).1
    show some i = some ((i.toNat : Nat) : Int)
    rw [Int.toNat_of_nonneg this]
theorem InR.par {A : AI} (h : InR A) : ∀ (j p : Nat), (A.map ofI)[j]? = some (some p) → p < (A.map ofI).length := by
  intro j p hj
  rw [List.getElem?_map] at hj
  rw [List.length_map]
  cases q : A[j]? with
  | none => rw [q] at hj; cases hj
  | some o =>
    rw [q] at hj
    cases o with
    | none => cases Option.some.inj hj
    | some i =>
      have e : i.toNat = p := Option.some.inj (Option.some.inj hj)
      have := h j i q
      omega
theorem map_back (ab : Ab) : (ab.map toI).map ofI = ab := by
  rw [List.map_map]
  exact (List.map_congr_left fun o _ => ofI_toI o).trans (List.map_id ab)
theorem Rtd.root {A : AI} (h : Rtd A) : ∃ r, Root1 A r := by
  obtain ⟨ab, r, rk, rfl, T⟩ := h
  exact ⟨r, Root1.of.mpr (by rw [map_back]; exact ⟨T.root, T.only⟩)⟩
theorem Rtd.inR {A : AI} (h : Rtd A) : InR A := by
  obtain ⟨ab, r, rk, rfl, T⟩ := h
  intro j i hj
  rw [List.getElem?_map] at hj
  cases q : ab[j]? with
  | none => rw [q] at hj; cases hj
  | some o =>
    rw [q] at hj
    cases o with
    | none => cases Option.some.inj hj
    | some p =>
      have e : (p : Int) = i := Option.some.inj (Option.some.inj hj)
      have := (T.up j p q).1
      rw [List.length_map]
      omega
theorem Rtd.tree {A : AI} (h : Rtd A) {r : Nat} (hr : Root1 A r) : ∃ rk, Tree (A.map ofI) r rk := by
  obtain ⟨ab, r', rk, rfl, T⟩ := h
  rw [map_back]
  have : r = r' := T.only r (by have := (Root1.of.mp hr).1; rwa [map_back] at this)
  rw [this]
  exact ⟨rk, T⟩
end KM


set_option Elab.async false
set_option linter.all false
set_option maxRecDepth 100000
namespace KD
open PySem L2 KM PyProof.Rows
def vI : Option Int → V
  | none => .non
  | some i => .int i
theorem vI_toI (o : Option Nat) : vI (toI o) = vO o := by cases o <;> rfl
theorem map_vI (ab : Ab) : (ab.map toI).map vI = ab.map vO := by
  rw [List.map_map]
  exact List.map_congr_left fun o _ => vI_toI o
def spRootX (C : Addr) : Sp := fun vs H Q E => ∃ (a : Addr) (A : AI), vs = [.ref a] ∧ H a = some (.lst (A.map vI)) ∧ A.length ≤ 1000 ∧ (∀ (r : Nat) (H' : Hp), Root1 A r → Same H H' → Q (vN r) H') ∧ ((¬ ∃ r, Root1 A r) → ∀ H', Same H H' → E (.ref C) none H')
def spUnderX (C : Addr) : Sp := fun vs H Q E => ∃ (a : Addr) (A : AI), vs = [.ref a] ∧ H a = some (.lst (A.map vI)) ∧ A.length ≤ 1000 ∧
  (InR A → ∀ (u : Addr) (as : List Addr) (H' : Hp), Same H H' → UnderAt H' u as (A.map ofI) → Q (.ref u) H') ∧ (¬ InR A → ∀ H', Same H H' → E (.ref C) none H')
def spFormX (C : Addr) : Sp := fun vs H Q E => ∃ (a : Addr) (A : AI), vs = [.ref a] ∧ H a = some (.lst (A.map vI)) ∧ A.length < 64 ∧
  (∀ (ab : Ab) (r : Nat) (rk : Nat → Nat) (H' : Hp), A = ab.map toI → Tree ab r rk → Same H H' → Q (vT (fm ab r)) H') ∧ (¬ Rtd A → ∀ H', Same H H' → E (.ref C) none H')
end KD


set_option Elab.async false
set_option linter.all false
set_option maxRecDepth 100000
namespace L2
open PySem PySem.Spec PyProof.Rows
section
variable {X : Cx}
end
end L2


set_option linter.all false
namespace KM
def isUnder (A : AI) (L : List Nat) (k : Nat) : Bool := L.any fun m => A[k]? == some (some (m : Int))
theorem isUnder_iff {A : AI} {L : List Nat} {k : Nat} : isUnder A L k = true ↔ ∃ m ∈ L, A[k]? = some (some (m : Int)) := by
  unfold isUnder
  rw [List.any_eq_true]
  constructor
  · rintro ⟨m, h, e⟩; exact ⟨m, h, eq_of_beq e⟩
  · rintro ⟨m, h, e⟩; exact ⟨m, h, by rw [e]; exact beq_self_eq_true _⟩
def stepK (A : AI) (L : List Nat) (k : Nat) : List Nat := if (!L.contains k && isUnder A L k) = true then L ++ [k] else L
def turnTo (A : AI) (L : List Nat) (i : Nat) : List Nat := (List.range i).foldl (stepK A) L
def turns (A : AI) (L : List Nat) : Nat → List Nat
  | 0 => L
  | t + 1 => turnTo A (turns A L t) A.length
theorem turnTo_succ (A : AI) (L : List Nat) (i : Nat) : turnTo A L (i + 1) = stepK A (turnTo A L i) i := by
  unfold turnTo
  rw [List.range_succ, List.foldl_append]
  rfl
theorem stepK_sub (A : AI) (L : List Nat) (k : Nat) : ∀ x ∈ L, x ∈ stepK A L k := by
  intro x hx
  unfold stepK
  split
  · exact List.mem_append_left _ hx
  · exact hx
theorem turnTo_sub (A : AI) (L : List Nat) : ∀ (i : Nat), ∀ x ∈ L, x ∈ turnTo A L i
  | 0, x, hx => hx
  | i + 1, x, hx => by
    rw [turnTo_succ]
    exact stepK_sub _ _ _ x (turnTo_sub A L i x hx)
theorem turnTo_mono (A : AI) (L : List Nat) {i j : Nat} (h : i ≤ j) : ∀ x ∈ turnTo A L i, x ∈ turnTo A L j := by
  induction h with
  | refl => intro x hx; exact hx
  | step _ ih =>
    intro x hx
    rw [turnTo_succ]
    exact stepK_sub _ _ _ x (ih x hx)
structure Fnd (A : AI) (r : Nat) (L : List Nat) : Prop where
  nd : L.Nodup
  lt : ∀ k ∈ L, k < A.length
  hr : r ∈ L
  up : ∀ (i k : Nat), L[i]? = some k → k ≠ r → ∃ j m, j < i ∧ L[j]? = some m ∧ A[k]? = some (some (m : Int))
theorem Fnd.one {A : AI} {r : Nat} (h : A[r]? = some none) : Fnd A r [r] where
  nd := by simp
  lt := by intro k hk; rw [List.mem_singleton.mp hk]; exact (List.getElem?_eq_some_iff.mp h).1
  hr := by simp
  up := by
    intro i k hi hk
    have := List.mem_of_getElem? hi
    exact absurd (List.mem_singleton.mp this) hk
theorem Fnd.step {A : AI} {r : Nat} {L : List Nat} (F : Fnd A r L) {k : Nat} : Fnd A r (stepK A L k) := by
  unfold stepK
  split
  · rename_i h
    rw [Bool.and_eq_true, Bool.not_eq_true', List.contains_eq_mem, decide_eq_false_iff_not] at h
    obtain ⟨m, hm, e⟩ := isUnder_iff.mp h.2
    refine ⟨?_, ?_, List.mem_append_left _ F.hr, ?_⟩
    · rw [List.nodup_append]
      exact ⟨F.nd, by simp, fun c hc c' hc' z => by rw [List.mem_singleton.mp hc'] at z; exact h.1 (z ▸ hc)⟩
    · intro c hc
      rcases List.mem_append.mp hc with hc | hc
      · exact F.lt c hc
      · rw [List.mem_singleton.mp hc]; exact (List.getElem?_eq_some_iff.mp e).1
    · intro i c hi hc
      by_cases hil : i < L.length
      · rw [List.getElem?_append_left hil] at hi
        obtain ⟨j, m', hj, hjm, ec⟩ := F.up i c hi hc
        exact ⟨j, m', hj, by rw [List.getElem?_append_left (by omega)]; exact hjm, ec⟩
      · have hi' := (List.getElem?_eq_some_iff.mp hi).1
        rw [List.length_append, List.length_singleton] at hi'
        have hie : i = L.length := by omega
        rw [List.getElem?_append_right (by omega), hie, Nat.sub_self] at hi
        cases hi
        obtain ⟨j, hj⟩ := List.mem_iff_getElem?.mp hm
        have hjl := (List.getElem?_eq_some_iff.mp hj).1
        exact ⟨j, m, by omega, by rw [List.getElem?_append_left hjl]; exact hj, e⟩
  · exact F
theorem Fnd.turnTo {A : AI} {r : Nat} {L : List Nat} (F : Fnd A r L) : ∀ i, Fnd A r (turnTo A L i)
  | 0 => F
  | i + 1 => by rw [turnTo_succ]; exact (Fnd.turnTo F i).step
theorem Fnd.turns {A : AI} {r : Nat} {L : List Nat} (F : Fnd A r L) : ∀ t, Fnd A r (turns A L t)
  | 0 => F
  | t + 1 => (Fnd.turns F t).turnTo _
theorem Fnd.len {A : AI} {r : Nat} {L : List Nat} (F : Fnd A r L) : L.length ≤ A.length := by
  have h := F.nd.length_le_of_subset (l₂ := List.range A.length) fun k hk => List.mem_range.mpr (F.lt k hk)
  rw [List.length_range] at h
  exact h
theorem Fnd.rtd {A : AI} {r : Nat} {L : List Nat} (hr : Root1 A r) (F : Fnd A r L) (h : L.length = A.length) : Rtd A := by
  have mem : ∀ k, k < A.length → k ∈ L := by
    intro k hk
    refine Classical.byContradiction fun hn => ?_
    have nd : (k :: L).Nodup := List.nodup_cons.mpr ⟨hn, F.nd⟩
    have h2 := nd.length_le_of_subset (l₂ := List.range A.length) fun j hj => List.mem_range.mpr (by
      rcases List.mem_cons.mp hj with e | e
      · rw [e]; exact hk
      · exact F.lt j e)
    rw [List.length_range, List.length_cons] at h2
    omega
  have par : ∀ (j : Nat) (i : Int), A[j]? = some (some i) → ∃ m : Nat, i = m ∧ m < A.length ∧ L.idxOf m < L.idxOf j := by
    intro j i hj
    have hjl := (List.getElem?_eq_some_iff.mp hj).1
    obtain ⟨x, hx⟩ := List.mem_iff_getElem?.mp (mem j hjl)
    have hne : j ≠ r := fun z => by rw [z, hr.1] at hj; cases hj
    obtain ⟨y, m, hy, hym, e⟩ := F.up x j hx hne
    rw [hj] at e
    have e' : i = (m : Int) := Option.some.inj (Option.some.inj e)
    refine ⟨m, e', F.lt m (List.mem_of_getElem? hym), ?_⟩
    rw [idx_of F.nd hx, idx_of F.nd hym]
    exact hy
  have hI : InR A := fun j i hj => by
    obtain ⟨m, rfl, hm, _⟩ := par j i hj
    omega
  have hR := Root1.of.mp hr
  refine ⟨A.map ofI, r, fun k => L.idxOf k, hI.back, hR.1, hR.2, fun j p hj => ?_, fun j hj => ?_⟩
  · refine ⟨hI.par j p hj, ?_⟩
    have hb := hI.back
    have hj2 : A[j]? = some (some (p : Int)) := by
      rw [hb, List.getElem?_map, hj]
      rfl
    obtain ⟨m, e, _, hm⟩ := par j _ hj2
    have : p = m := by omega
    rw [this]
    exact hm
  · rw [List.length_map] at hj ⊢
    have := List.idxOf_lt_length_of_mem (mem j hj)
    show L.idxOf j < A.length
    omega
theorem turns_all {A : AI} {r : Nat} {L : List Nat} (hr : Root1 A r) (hL : r ∈ L) {rk : Nat → Nat} (T : Tree (A.map ofI) r rk) (hI : InR A) : ∀ (t j : Nat), j < A.length → rk j ≤ t → j ∈ turns A L t
  | t, j, hj, hk => by
    have hsub : ∀ t, r ∈ turns A L t := fun t => by
      induction t with
      | zero => exact hL
      | succ t ih => exact turnTo_sub _ _ _ _ ih
    by_cases e : j = r
    · rw [e]; exact hsub t
    cases q : A[j]? with
    | none => exact absurd hj (by have := List.getElem?_eq_none_iff.mp q; omega)
    | some o =>
      cases o with
      | none => exact absurd (hr.2 j q) e
      | some i =>
        obtain ⟨h0, h1⟩ := hI j i q
        obtain ⟨p, rfl⟩ := Int.eq_ofNat_of_zero_le h0
        have hab : (A.map ofI)[j]? = some (some p) := by rw [List.getElem?_map, q]; rfl
        have hup := (T.up j p hab).2
        match t, hk with
        | 0, hk => omega
        | t + 1, hk =>
          have hp := turns_all hr hL T hI t p (by omega) (by omega)
          show j ∈ turnTo A (turns A L t) A.length
          refine turnTo_mono _ _ (show j + 1 ≤ A.length by omega) j ?_
          rw [turnTo_succ]
          have hp2 := turnTo_sub A (turns A L t) j p hp
          unfold stepK
          split
          · exact List.mem_append_right _ (List.mem_singleton.mpr rfl)
          · rename_i hn
            refine Classical.byContradiction fun hc => hn ?_
            rw [Bool.and_eq_true, Bool.not_eq_true', List.contains_eq_mem, decide_eq_false_iff_not]
            exact ⟨hc, isUnder_iff.mpr ⟨p, hp2, q⟩⟩
theorem walked {A : AI} {r : Nat} (hr : Root1 A r) : (turns A [r] A.length).length = A.length ↔ Rtd A := by
  have F := (Fnd.one hr.1).turns A.length
  constructor
  · exact F.rtd hr
  · intro h
    obtain ⟨rk, T⟩ := h.tree hr
    have h1 := F.len
    have h2 := List.nodup_range.length_le_of_subset (l₁ := List.range A.length) (l₂ := turns A [r] A.length) fun j hj => by
      have hj := List.mem_range.mp hj
      have := T.low j (by rw [List.length_map]; exact hj)
      rw [List.length_map] at this
      exact turns_all hr (List.mem_singleton.mpr rfl) T h.inR _ j hj (by omega)
    rw [List.length_range] at h2
    omega
end KM


set_option Elab.async false
set_option linter.all false
set_option maxRecDepth 100000
namespace KD
open PySem L2 KM PyProof.Rows
theorem flat_vN (L : List Nat) : (L.map vN).all flatV = true := by
  rw [List.all_eq_true]
  intro x hx
  obtain ⟨k, _, rfl⟩ := List.mem_map.mp hx
  rfl
theorem Rtd.pos {A : AI} (h : Rtd A) : 0 < A.length := by
  obtain ⟨r, h1, _⟩ := h.root
  have := (List.getElem?_eq_some_iff.mp h1).1
  omega
theorem cutTake (xs : List V) (k : Nat) : cutV xs none (some (k : Int)) = xs.take k := by
  unfold cutV
  rw [HT.sIx_none, HT.sIx_nat, List.drop_zero, Nat.sub_zero]
  by_cases h : k ≤ xs.length
  · rw [Nat.min_eq_left h]
  · rw [Nat.min_eq_right (by omega), List.take_length, List.take_of_length_le (by omega)]
end KD


set_option Elab.async false
set_option linter.all false
set_option maxRecDepth 100000
namespace L2
open PySem PySem.Spec PyProof.Rows
section
variable {P : Program} {w : World} {K : PySem.W.Frag} {mg : Str → Option Value} {base : Heap}
structure FunD (K : PySem.W.Frag) (x qual : Str) (st : Stmt) (f : Addr) (fd : FuncData) : Prop where
  ex : ∃ (T : Addr) (oc : Value) (od : Option Addr) (kV doc pm : Value) (an : Option Addr) (cdv ct : Value) (osl : Array (Option Value)) (tc : Value) (td : Option Addr) (tn : Nat) (tsl : Array (Option Value)),
    fd = PySem.W.fnOf x qual (defArgs st) (defBody st) (defScope st) (.ref T) kV doc pm an cdv ct ∧ K.lookup f = some ⟨oc, od, .func fd, osl⟩ ∧ PySem.W.codeIn K cdv qual = true ∧ K.lookup T = some ⟨tc, td, .seq #[.none] tn, tsl⟩
  kp : PySem.W.keepIn K (.ref f) = true
theorem funD_mk {x qual : Str} {st : Stmt} {f T : Addr} {oc : Value} {od an : Option Addr} {osl : Array (Option Value)} {kV doc pm cdv ct tc : Value} {td : Option Addr} {tn : Nat} {tsl : Array (Option Value)}
    (l : K.lookup f = some ⟨oc, od, .func (PySem.W.fnOf x qual (defArgs st) (defBody st) (defScope st) (.ref T) kV doc pm an cdv ct), osl⟩)
    (c : PySem.W.codeIn K cdv qual = true) (k : PySem.W.keepIn K (.ref f) = true) (t : K.lookup T = some ⟨tc, td, .seq #[.none] tn, tsl⟩) : FunD K x qual st f (PySem.W.fnOf x qual (defArgs st) (defBody st) (defScope st) (.ref T) kV doc pm an cdv ct) :=
  ⟨⟨T, oc, od, kV, doc, pm, an, cdv, ct, osl, tc, td, tn, tsl, rfl, l, c, t⟩, k⟩
theorem FunD.okX {qual x : Str} {st : Stmt} {f : Addr} {fd : FuncData} {N ps : List Str} {k : Nat} {sp : Sp} (F : FunD K x qual st f fd) (S : FnScope N ps (defScope st)) (len : ∀ vs H Q E, sp vs H Q E → vs.length = ps.length)
    (hbody : ∀ (cdv : Value) (A : Around) (outer : List Env) (s : Shared) (H : Hp) (vs : List V) (Q : VK) (E : XK), Room k (A.deeper (envOfC qual (defScope st) s.heap.objs.size f cdv)) → sp vs H Q E →
      ∃ t, PSs (cxOf (CXe P w) P w K mg base N qual (defScope st) f cdv A outer s H E) (defBody st) t ∧ t { nx := fun _ H' => Q .non H', rt := Q } (start N vs) H) : FnOk P w K mg base (CXe P w) (k + 1) f fd ps sp := by
  obtain ⟨T, oc, od, kV, doc, pm, an, cdv, ct, osl, tc, td, tn, tsl, rfl, lk, hcd, _⟩ := F.ex
  exact fn_of lk hcd S len fun A outer s H vs Q E hr hsp => hbody cdv A outer s H vs Q E hr hsp
theorem FunD.binds {x qual : Str} {st : Stmt} {f : Addr} {fd : FuncData} {ps : List Str} (F : FunD K x qual st f fd)
    (h : ∀ (T : Addr) (kV doc pm : Value) (an : Option Addr) (cdv ct : Value) (us : List Value), us.length = ps.length → ∃ k : Option (Array Value) → Sem (List (Str × Value)),
      bindArgs (PySem.W.fnOf x qual (defArgs st) (defBody st) (defScope st) (.ref T) kV doc pm an cdv ct) ⟨us, []⟩ = seqItems? (.ref T) >>= k ∧ k (some #[.none]) = pure (ps.zip us)) : Binds K fd ps [] := by
  obtain ⟨T, oc, od, kV, doc, pm, an, cdv, ct, osl, tc, td, tn, tsl, rfl, lk, hcd, lt⟩ := F.ex
  intro s us KX hl
  rw [List.append_nil] at hl ⊢
  obtain ⟨k, h1, h2⟩ := h T kV doc pm an cdv ct us hl
  exact BindsTo.of_defaults rfl (KX _ _ lt) rfl h1 h2
theorem FunD.binds1 {x qual : Str} {st : Stmt} {f : Addr} {fd : FuncData} {ps : List Str} (F : FunD K x qual st f fd)
    (h : ∀ (T : Addr) (kV doc pm : Value) (an : Option Addr) (cdv ct : Value) (us : List Value), us.length + 1 = ps.length → ∃ k : Option (Array Value) → Sem (List (Str × Value)),
      bindArgs (PySem.W.fnOf x qual (defArgs st) (defBody st) (defScope st) (.ref T) kV doc pm an cdv ct) ⟨us, []⟩ = seqItems? (.ref T) >>= k ∧ k (some #[.none]) = pure (ps.zip (us ++ [.none]))) : Binds K fd ps [.none] := by
  obtain ⟨T, oc, od, kV, doc, pm, an, cdv, ct, osl, tc, td, tn, tsl, rfl, lk, hcd, lt⟩ := F.ex
  intro s us KX hl
  rw [List.length_append] at hl
  obtain ⟨k, h1, h2⟩ := h T kV doc pm an cdv ct us hl
  exact BindsTo.of_defaults rfl (KX _ _ lt) rfl h1 h2
theorem FnOk.quiet {k : Nat} {f : Addr} {fd : FuncData} {ps : List Str} {sp sp' : Sp} (F : FnOk P w K mg base (CXe P w) k f fd ps sp) (h : ∀ vs H Q E, sp' vs H Q E → sp vs H Q E0) : FnOk P w K mg base CX0 k f fd ps sp' :=
  ⟨fun vs H Q E q => F.len vs H Q E0 (h _ _ _ _ q), fun A outer s H args us vs Q E hr e0 hb hv hs => codeAny_mono (F.run A outer s H args us vs Q E0 hr e0 hb hv (h _ _ _ _ hs)) fun r s' hq => by
    cases r with
    | error e =>
      obtain ⟨a, cls, a0, H', B, _, _, _, _, _, _, _, _, hE⟩ := hq
      exact hE
    | ok fl => cases fl <;> exact hq⟩
end
end L2


set_option linter.all false
namespace KM
def mrk (m : Option Nat) (k : Nat) : List Tx := if m = some k then [[42]] else []
theorem mrk_self (k : Nat) : mrk (some k) k = [[42]] := if_pos rfl
theorem mrk_ne {m k : Nat} (h : m ≠ k) : mrk (some m) k = [] := if_neg fun z => h (Option.some.inj z)
def formM (ab : Ab) (m : Option Nat) : Nat → Nat → Tx
  | 0, _ => []
  | f + 1, k => brk (srt ((kids ab k).map (formM ab m f) ++ mrk m k)).flatten
def fmM (ab : Ab) (m : Option Nat) (k : Nat) : Tx := formM ab m ab.length k
theorem formM_none (ab : Ab) : ∀ (f k : Nat), formM ab none f k = form ab f k
  | 0, _ => rfl
  | f + 1, k => by
    show brk (srt ((kids ab k).map (formM ab none f) ++ [])).flatten = brk _
    rw [List.append_nil]
    have e : formM ab none f = form ab f := funext fun j => formM_none ab f j
    rw [e]
theorem fmM_none (ab : Ab) (k : Nat) : fmM ab none k = fm ab k := formM_none ab _ k
section
variable {ab : Ab} {r : Nat} {rk : Nat → Nat}
theorem Tree.stableM (T : Tree ab r rk) (m : Option Nat) : ∀ (d k f g : Nat), k < ab.length → ab.length - rk k ≤ d → ab.length - rk k ≤ f → ab.length - rk k ≤ g → formM ab m f k = formM ab m g k
  | 0, k, f, g, hk, hd, _, _ => by have := T.low k hk; omega
  | d + 1, k, f, g, hk, hd, hf, hg => by
    have h0 := T.low k hk
    obtain ⟨f', rfl⟩ : ∃ f', f = f' + 1 := ⟨f - 1, by omega⟩
    obtain ⟨g', rfl⟩ : ∃ g', g = g' + 1 := ⟨g - 1, by omega⟩
    show brk _ = brk _
    congr 4
    refine List.map_congr_left fun c hc => ?_
    have h1 := (T.up c k (mem_kids.mp hc)).2
    have h2 := T.low c (kids_lt hc)
    exact T.stableM m d c f' g' (kids_lt hc) (by omega) (by omega) (by omega)
theorem Tree.fmM_eq (T : Tree ab r rk) (m : Option Nat) {k : Nat} (hk : k < ab.length) : fmM ab m k = brk (srt ((kids ab k).map (fmM ab m) ++ mrk m k)).flatten := by
  have e : fmM ab m k = formM ab m (ab.length + 1) k := T.stableM m _ k _ _ hk (Nat.le_refl _) (by omega) (by omega)
  rw [e]
  rfl
theorem Tree.down (T : Tree ab r rk) {P : Nat → Prop} (h : ∀ k, k < ab.length → (∀ c ∈ kids ab k, P c) → P k) : ∀ (d k : Nat), ab.length - rk k ≤ d → k < ab.length → P k
  | 0, k, hd, hk => by have := T.low k hk; omega
  | d + 1, k, hd, hk => h k hk fun c hc => by
    have h1 := (T.up c k (mem_kids.mp hc)).2
    have h2 := T.low c (kids_lt hc)
    exact T.down h d c (by omega) (kids_lt hc)
end
theorem mrk_len (m : Option Nat) (k : Nat) : ((mrk m k).map (·.length)).sum ≤ 1 := by
  unfold mrk
  split <;> simp
theorem formM_len (ab : Ab) (m : Option Nat) (f k : Nat) : (formM ab m (f + 1) k).length ≤ ((kids ab k).map fun c => (formM ab m f c).length).sum + 3 := by
  show (brk _).length ≤ _
  rw [brk_len, srt_len, List.map_append, List.sum_append, List.map_map]
  have := mrk_len m k
  show _ + _ + 2 ≤ _
  have e : ((kids ab k).map ((fun x => x.length) ∘ formM ab m f)) = (kids ab k).map fun c => (formM ab m f c).length := rfl
  rw [e]
  omega
theorem formsM_all (ab : Ab) (m : Option Nat) : ∀ f : Nat, ((List.range ab.length).map fun k => (formM ab m f k).length).sum ≤ 3 * ab.length * f
  | 0 => by
    have : ((List.range ab.length).map fun k => (formM ab m 0 k).length) = (List.range ab.length).map fun _ => 0 := rfl
    rw [this, sum_const]; simp
  | f + 1 => by
    have e : ((List.range ab.length).map fun k => (formM ab m (f + 1) k).length).sum ≤ ((List.range ab.length).map fun k => ((kids ab k).map fun c => (formM ab m f c).length).sum + 3).sum :=
      sum_map_le _ _ _ fun k _ => formM_len ab m f k
    refine Nat.le_trans e ?_
    rw [sum_map_add, sum_const, List.length_range]
    have h1 : ((List.range ab.length).map fun k => ((kids ab k).map fun c => (formM ab m f c).length).sum).sum ≤ _ := sum_filter ab (fun c => (formM ab m f c).length) (List.range ab.length) List.nodup_range (List.range ab.length)
    have h2 := formsM_all ab m f
    rw [Nat.mul_add]
    omega
theorem fmM_kids_len (ab : Ab) (m : Option Nat) (k : Nat) : ((kids ab k).map fun c => (fmM ab m c).length).sum ≤ 3 * ab.length * ab.length := by
  have h1 : ((kids ab k).map fun c => (fmM ab m c).length).sum ≤ ((List.range ab.length).map fun c => (formM ab m ab.length c).length).sum := by
    unfold kids fmM
    exact sub_sum (List.Sublist.map _ List.filter_sublist)
  exact Nat.le_trans h1 (formsM_all ab m _)
def sgn (c : Nat) : Int := if c = 40 then 1 else if c = 41 then -1 else 0
def dep : Tx → Int
  | [] => 0
  | c :: t => sgn c + dep t
theorem dep_append : ∀ (a b : Tx), dep (a ++ b) = dep a + dep b
  | [], b => by show dep b = 0 + dep b; omega
  | c :: a, b => by
    show sgn c + dep (a ++ b) = sgn c + dep a + dep b
    rw [dep_append a b]; omega
structure Whole (p : Tx) : Prop where
  ne : p ≠ []
  zero : dep p = 0
  inner : ∀ (q s : Tx), p = q ++ s → q ≠ [] → s ≠ [] → 0 < dep q
theorem whole_mark : Whole [42] := by
  refine ⟨by simp, rfl, fun q s h h1 h2 => ?_⟩
  match q, s, h with
  | [], _, _ => exact absurd rfl h1
  | [_], [], _ => exact absurd rfl h2
  | [_], _ :: _, h => simp at h
  | _ :: _ :: _, _, h => simp at h
theorem flat_dep {ps : List Tx} (h : ∀ p ∈ ps, Whole p) : dep ps.flatten = 0 := by
  induction ps with
  | nil => rfl
  | cons p ps ih =>
    rw [List.flatten_cons, dep_append, (h p List.mem_cons_self).zero, ih fun q hq => h q (List.mem_cons_of_mem _ hq)]
    rfl
theorem flat_pre : ∀ {ps : List Tx}, (∀ p ∈ ps, Whole p) → ∀ (q s : Tx), ps.flatten = q ++ s → 0 ≤ dep q
  | [], _, q, s, e => by
    have : q = [] := (List.append_eq_nil_iff.mp e.symm).1
    subst this
    exact Int.le_refl _
  | p :: ps, h, q, s, e => by
    rw [List.flatten_cons] at e
    have hp := h p List.mem_cons_self
    rcases List.append_eq_append_iff.mp e with ⟨a, e1, e2⟩ | ⟨c, e1, e2⟩
    · rw [e1, dep_append, hp.zero]
      have := flat_pre (fun x hx => h x (List.mem_cons_of_mem _ hx)) a s e2
      omega
    · by_cases hq : q = []
      · subst hq; exact Int.le_refl _
      by_cases hc : c = []
      · subst hc
        rw [List.append_nil] at e1
        rw [← e1, hp.zero]
        exact Int.le_refl _
      · have := hp.inner q c e1 hq hc
        omega
theorem whole_brk {ps : List Tx} (h : ∀ p ∈ ps, Whole p) : Whole (brk ps.flatten) := by
  refine ⟨by unfold brk; simp, ?_, fun q s e h1 h2 => ?_⟩
  · show sgn 40 + dep (ps.flatten ++ [41]) = 0
    rw [dep_append, flat_dep h]
    rfl
  · match q, h1 with
    | c :: q, _ =>
      have e' : 40 :: (ps.flatten ++ [41]) = c :: (q ++ s) := e
      obtain ⟨rfl, e2⟩ := List.cons.inj e'
      show 0 < sgn 40 + dep q
      have : 0 ≤ dep q := by
        rcases List.append_eq_append_iff.mp e2 with ⟨a, e1, e3⟩ | ⟨a, e1, e3⟩
        · have : a = [] ∨ s = [] := by
            match a, s, e3 with
            | [], _, _ => exact .inl rfl
            | _ :: a, [], _ => exact .inr rfl
            | _ :: a, _ :: s, e3 => simp at e3
          rcases this with rfl | rfl
          · rw [List.append_nil] at e1
            rw [e1, flat_dep h]; exact Int.le_refl _
          · exact absurd rfl h2
        · exact flat_pre h q a e1
      show 0 < (1 : Int) + dep q
      omega
theorem mem_mrk {m : Option Nat} {k : Nat} {p : Tx} (h : p ∈ mrk m k) : p = [42] ∧ m = some k := by
  unfold mrk at h
  split at h
  · rename_i q
    exact ⟨List.mem_singleton.mp h, q⟩
  · cases h
section
variable {ab : Ab} {r : Nat} {rk : Nat → Nat}
theorem Tree.whole (T : Tree ab r rk) (m : Option Nat) {k : Nat} (hk : k < ab.length) : Whole (fmM ab m k) ∧ (fmM ab m k).head? = some 40 := by
  refine T.down (P := fun k => Whole (fmM ab m k) ∧ (fmM ab m k).head? = some 40) (fun k hk ih => ?_) _ k (Nat.le_refl _) hk
  rw [T.fmM_eq m hk]
  refine ⟨whole_brk fun p hp => ?_, rfl⟩
  have hp' := (srt_perm _).mem_iff.mp hp
  rcases List.mem_append.mp hp' with h | h
  · obtain ⟨c, hc, rfl⟩ := List.mem_map.mp h
    exact (ih c hc).1
  · rw [(mem_mrk h).1]
    exact whole_mark
end
end KM


set_option linter.all false
namespace KM
inductive Reach (kd : Nat → List Nat) (r : Nat) : List Nat → Nat → Prop
  | start : Reach kd r [r] 0
  | step {ord : List Nat} {pl k : Nat} : Reach kd r ord pl → ord[pl]? = some k → Reach kd r (ord ++ kd k) (pl + 1)
structure BfsK (ab : Ab) (kd : Nat → List Nat) (r : Nat) (ord : List Nat) (pl : Nat) : Prop where
  nd : ord.Nodup
  lt : ∀ k ∈ ord, k < ab.length
  eq : ord = r :: (ord.take pl).flatMap kd
  le : pl ≤ ord.length
  late : ∀ (i k c : Nat), i < pl → ord[i]? = some k → c ∈ kd k → ∃ j, i < j ∧ ord[j]? = some c
  reach : Reach kd r ord pl
section
variable {ab : Ab} {r : Nat} {rk : Nat → Nat} {kd : Nat → List Nat}
theorem bfsK0 (h : ab[r]? = some none) : BfsK ab kd r [r] 0 where
  nd := by simp
  lt := by intro k hk; rw [List.mem_singleton] at hk; subst hk; exact (List.getElem?_eq_some_iff.mp h).1
  eq := by simp
  le := Nat.zero_le _
  late := by intro i k c h; omega
  reach := .start
theorem BfsK.len {ord : List Nat} {pl : Nat} (B : BfsK ab kd r ord pl) : ord.length ≤ ab.length := by
  have h := B.nd.length_le_of_subset (l₂ := List.range ab.length) fun k hk => List.mem_range.mpr (B.lt k hk)
  rw [List.length_range] at h
  exact h
theorem BfsK.step (hroot : ab[r]? = some none) (hkd : ∀ k, k < ab.length → (kd k).Perm (kids ab k)) {ord : List Nat} {pl k : Nat} (B : BfsK ab kd r ord pl) (hk : ord[pl]? = some k) : BfsK ab kd r (ord ++ kd k) (pl + 1) := by
  have hlt : pl < ord.length := (List.getElem?_eq_some_iff.mp hk).1
  have hkl : k < ab.length := B.lt k (List.mem_of_getElem? hk)
  refine ⟨?_, ?_, ?_, ?_, ?_, B.reach.step hk⟩
  · rw [List.nodup_append]
    refine ⟨B.nd, ((hkd k hkl).nodup_iff).mpr (kids_nodup ab k), fun c hc c' hc' e => ?_⟩
    subst e
    have hp := mem_kids.mp ((hkd k hkl).mem_iff.mp hc')
    rw [B.eq] at hc
    rcases List.mem_cons.mp hc with e | hc
    · subst e; rw [hroot] at hp; cases hp
    · obtain ⟨k', hk', hc2⟩ := List.mem_flatMap.mp hc
      have hk'l : k' < ab.length := B.lt k' (List.mem_of_mem_take hk')
      have e : k' = k := by
        have h2 := mem_kids.mp ((hkd k' hk'l).mem_iff.mp hc2)
        rw [hp] at h2
        exact (Option.some.inj (Option.some.inj h2)).symm
      subst e
      obtain ⟨i, hi⟩ := List.mem_iff_getElem?.mp hk'
      have hil : i < pl := by
        have := (List.getElem?_eq_some_iff.mp hi).1
        rw [List.length_take] at this
        omega
      rw [List.getElem?_take_of_lt hil] at hi
      have h3 : i < ord.length := by omega
      rw [List.getElem?_eq_getElem h3] at hi
      rw [List.getElem?_eq_getElem hlt] at hk
      have h4 : ord[i] = ord[pl] := by rw [Option.some.inj hi, Option.some.inj hk]
      have := (List.getElem_inj B.nd).mp h4
      omega
  · intro c hc
    rcases List.mem_append.mp hc with h | h
    · exact B.lt c h
    · exact kids_lt ((hkd k hkl).mem_iff.mp h)
  · have e : (ord ++ kd k).take (pl + 1) = ord.take pl ++ [k] := by
      rw [List.take_append_of_le_length (by omega), List.take_add_one, hk]
      rfl
    rw [e, List.flatMap_append]
    have e2 : [k].flatMap kd = kd k := by simp
    rw [e2]
    have e3 := B.eq
    rw [← List.cons_append, ← e3]
  · rw [List.length_append]; omega
  · intro i k' c hi he hc
    by_cases hip : i < pl
    · have h3 : i < ord.length := by omega
      rw [List.getElem?_append_left h3] at he
      obtain ⟨j, hj, hjc⟩ := B.late i k' c hip he hc
      exact ⟨j, hj, by rw [List.getElem?_append_left (List.getElem?_eq_some_iff.mp hjc).1]; exact hjc⟩
    · have hie : i = pl := by omega
      subst hie
      rw [List.getElem?_append_left hlt, hk] at he
      cases he
      obtain ⟨j, hj⟩ := List.mem_iff_getElem?.mp hc
      refine ⟨ord.length + j, by omega, ?_⟩
      rw [List.getElem?_append_right (by omega)]
      rw [Nat.add_sub_cancel_left]
      exact hj
theorem BfsK.bfs {ord : List Nat} {pl : Nat} (B : BfsK ab (kids ab) r ord pl) : Bfs ab r ord pl := ⟨B.nd, B.lt, B.eq, B.le, B.late⟩
theorem BfsK.all (T : Tree ab r rk) (hkd : ∀ k, k < ab.length → (kd k).Perm (kids ab k)) {ord : List Nat} (B : BfsK ab kd r ord ord.length) : ∀ (d j : Nat), rk j ≤ d → j < ab.length → j ∈ ord
  | d, j, hd, hj => by
    cases q : ab[j] with
    | none =>
      have := T.only j (by rw [List.getElem?_eq_getElem hj, q])
      subst this
      rw [B.eq]
      exact List.mem_cons_self
    | some p =>
      have hp : ab[j]? = some (some p) := by rw [List.getElem?_eq_getElem hj, q]
      obtain ⟨hpl, hr⟩ := T.up j p hp
      have hm : p ∈ ord := by
        match d, hd with
        | 0, hd => omega
        | d + 1, hd => exact BfsK.all T hkd B d p (by omega) hpl
      obtain ⟨i, hi⟩ := List.mem_iff_getElem?.mp hm
      obtain ⟨j', _, hj'⟩ := B.late i p j (List.getElem?_eq_some_iff.mp hi).1 hi ((hkd p hpl).mem_iff.mpr (mem_kids.mpr hp))
      exact List.mem_iff_getElem?.mpr ⟨j', hj'⟩
theorem BfsK.perm (T : Tree ab r rk) (hkd : ∀ k, k < ab.length → (kd k).Perm (kids ab k)) {ord : List Nat} (B : BfsK ab kd r ord ord.length) : ord.Perm (List.range ab.length) :=
  (List.perm_ext_iff_of_nodup B.nd List.nodup_range).mpr fun j => ⟨fun h => List.mem_range.mpr (B.lt j h), fun h => B.all T hkd _ j (Nat.le_refl _) (List.mem_range.mp h)⟩
end
section
variable {kd kd' : Nat → List Nat} {r r' : Nat} {F F' : Nat → Tx}
theorem Reach.pos {ord : List Nat} {pl : Nat} (R : Reach kd r ord pl) : ∃ t, ord = r :: t := by
  induction R with
  | start => exact ⟨[], rfl⟩
  | step _ _ ih => obtain ⟨t, rfl⟩ := ih; exact ⟨_, rfl⟩
theorem Reach.same (hr : F r = F' r') (hs : ∀ {ord ord' : List Nat} {pl k k' : Nat}, Reach kd r ord pl → Reach kd' r' ord' pl → ord[pl]? = some k → ord'[pl]? = some k' → F k = F' k' → (kd k).map F = (kd' k').map F') :
    ∀ (pl : Nat) {ord ord' : List Nat}, Reach kd r ord pl → Reach kd' r' ord' pl →
      ord.map F = ord'.map F' ∧ (∀ (j c c' : Nat), 0 < j → ord[j]? = some c → ord'[j]? = some c' → ∃ (i k k' : Nat), ord[i]? = some k ∧ ord'[i]? = some k' ∧ c ∈ kd k ∧ c' ∈ kd' k')
  | 0, _, _, R, R' => by
    cases R; cases R'
    refine ⟨by show [F r] = [F' r']; rw [hr], fun j c c' hj h => ?_⟩
    rw [List.getElem?_eq_none (show [r].length ≤ j from hj)] at h
    cases h
  | pl + 1, _, _, R, R' => by
    cases R with
    | @step ord _ k R hk =>
      cases R' with
      | @step ord' _ k' R' hk' =>
        obtain ⟨e, up⟩ := Reach.same hr hs pl R R'
        have hl : ord.length = ord'.length := by have := congrArg List.length e; rwa [List.length_map, List.length_map] at this
        have ek : F k = F' k' := by
          have := congrArg (·[pl]?) e
          simp only [List.getElem?_map, hk, hk', Option.map_some] at this
          exact Option.some.inj this
        have ep := hs R R' hk hk' ek
        refine ⟨by rw [List.map_append, List.map_append, e, ep], fun j c c' hj h h' => ?_⟩
        by_cases hjl : j < ord.length
        · rw [List.getElem?_append_left hjl] at h
          rw [List.getElem?_append_left (by omega)] at h'
          obtain ⟨i, a, a', h1, h2, h3, h4⟩ := up j c c' hj h h'
          exact ⟨i, a, a', by rw [List.getElem?_append_left (List.getElem?_eq_some_iff.mp h1).1]; exact h1, by rw [List.getElem?_append_left (List.getElem?_eq_some_iff.mp h2).1]; exact h2, h3, h4⟩
        · rw [List.getElem?_append_right (by omega)] at h h'
          exact ⟨pl, k, k', by rw [List.getElem?_append_left (List.getElem?_eq_some_iff.mp hk).1]; exact hk, by rw [List.getElem?_append_left (List.getElem?_eq_some_iff.mp hk').1]; exact hk', List.mem_of_getElem? h, List.mem_of_getElem? h'⟩
end
structure MatesTo (ord ord' mt : List Nat) (i : Nat) : Prop where
  len : mt.length = ord.length
  done : ∀ (j k k' : Nat), j < i → ord[j]? = some k → ord'[j]? = some k' → mt[k]? = some k'
theorem MatesTo.step {ord ord' mt : List Nat} {i k k' : Nat} (nd : ord.Nodup) (M : MatesTo ord ord' mt i) (hk : ord[i]? = some k) (hk' : ord'[i]? = some k') (hl : k < ord.length) : MatesTo ord ord' (mt.set k k') (i + 1) := by
  refine ⟨by rw [List.length_set]; exact M.len, fun j a a' hj ha ha' => ?_⟩
  rw [List.getElem?_set]
  by_cases e : j = i
  · subst e
    rw [hk] at ha
    rw [hk'] at ha'
    cases ha
    cases ha'
    rw [if_pos rfl, if_pos (by rw [M.len]; exact hl)]
  · rw [if_neg]
    · exact M.done j a a' (by omega) ha ha'
    · intro z
      subst z
      obtain ⟨h1, e1⟩ := List.getElem?_eq_some_iff.mp hk
      obtain ⟨h2, e2⟩ := List.getElem?_eq_some_iff.mp ha
      exact e ((List.getElem_inj nd).mp (e2.trans e1.symm))
structure Sorted (ab : Ab) (F : Nat → Tx) (kd : Nat → List Nat) : Prop where
  perm : ∀ k, k < ab.length → (kd k).Perm (kids ab k)
  asc : ∀ k, k < ab.length → ((kd k).map F).Pairwise (fun a b => a ≤ b)
section
variable {ab ab' : Ab} {r r' : Nat} {rk rk' : Nat → Nat} {kd kd' : Nat → List Nat} {m m' : Option Nat}
end
end KM


set_option linter.all false
namespace KM
section
variable {ab ab' : Ab} {nm : List Nat}
theorem Renum.formM (R : Renum ab ab' nm) {m : Option Nat} (hm : ∀ j, m = some j → j < ab.length) : ∀ (f k : Nat), k < ab.length → formM ab' (m.map fun j => nm.getD j 0) f (nm.getD k 0) = formM ab m f k
  | 0, _, _ => rfl
  | f + 1, k, hk => by
    show brk _ = brk _
    have em : mrk (m.map fun j => nm.getD j 0) (nm.getD k 0) = mrk m k := by
      cases m with
      | none => rfl
      | some j =>
        have hj := hm j rfl
        by_cases e : j = k
        · subst e
          exact (mrk_self _).trans (mrk_self _).symm
        · rw [mrk_ne e]
          exact mrk_ne fun z => e (R.inj hj hk z)
    rw [em]
    congr 2
    refine srt_congr ?_
    refine List.Perm.append_right _ (((R.kids_perm hk).map _).trans ?_)
    rw [List.map_map]
    have e : (kids ab k).map (KM.formM ab' (m.map fun j => nm.getD j 0) f ∘ fun j => nm.getD j 0) = (kids ab k).map (KM.formM ab m f) := by
      refine List.map_congr_left fun j hj => ?_
      exact R.formM hm f j (kids_lt hj)
    rw [e]
theorem Renum.fmM (R : Renum ab ab' nm) {m : Option Nat} (hm : ∀ j, m = some j → j < ab.length) {k : Nat} (hk : k < ab.length) : fmM ab' (m.map fun j => nm.getD j 0) (nm.getD k 0) = fmM ab m k := by
  unfold KM.fmM
  rw [R.len]
  exact R.formM hm _ k hk
end
section
variable {ab : Ab} {r : Nat} {rk : Nat → Nat}
def Way (ab : Ab) (k k' : Nat) : Prop := ∃ mt, Renum ab ab mt ∧ mt[k]? = some k'
theorem Renum.root (T : Tree ab r rk) {nm : List Nat} (R : Renum ab ab nm) : nm.getD r 0 = r := by
  have hr : r < nm.length := by rw [R.nlen]; exact T.rlt
  have := R.at' r (nm.getD r 0) (by rw [getD_lt hr]; exact List.getElem?_eq_getElem hr)
  rw [T.root] at this
  exact T.only _ this
theorem getD_of {nm : List Nat} {k k' : Nat} (h : nm[k]? = some k') : nm.getD k 0 = k' := by rw [List.getD_eq_getElem?_getD, h]; rfl
theorem Way.forms (T : Tree ab r rk) {k k' : Nat} (W : Way ab k k') (hk : k < ab.length) : fmM ab (some k) r = fmM ab (some k') r := by
  obtain ⟨mt, R, h⟩ := W
  have := R.fmM (m := some k) (fun j e => by cases e; exact hk) T.rlt
  rw [R.root T] at this
  rw [← this]
  rw [Option.map_some, getD_of h]
inductive Abv (ab : Ab) : Nat → List Nat → Prop
  | root {k : Nat} : ab[k]? = some none → Abv ab k [k]
  | up {k p : Nat} {l : List Nat} : ab[k]? = some (some p) → Abv ab p l → Abv ab k (k :: l)
theorem Abv.det {k : Nat} {l l' : List Nat} (h : Abv ab k l) (h' : Abv ab k l') : l = l' := by
  induction h generalizing l' with
  | root e =>
    cases h' with
    | root => rfl
    | up e' => rw [e] at e'; cases e'
  | up e _ ih =>
    cases h' with
    | root e' => rw [e] at e'; cases e'
    | up e' c' =>
      rw [e] at e'
      cases e'
      rw [ih c']
theorem Abv.head {k : Nat} {l : List Nat} (h : Abv ab k l) : ∃ t, l = k :: t := by cases h <;> exact ⟨_, rfl⟩
theorem Abv.lt {k : Nat} {l : List Nat} (h : Abv ab k l) : k < ab.length := by
  cases h with
  | root e => exact (List.getElem?_eq_some_iff.mp e).1
  | up e => exact (List.getElem?_eq_some_iff.mp e).1
inductive Anc (ab : Ab) (k : Nat) : Nat → Prop
  | self : Anc ab k k
  | up {d p : Nat} : Anc ab k d → ab[d]? = some (some p) → Anc ab k p
theorem Anc.front {k p a : Nat} (h : Anc ab k a) (hp : ab[k]? = some (some p)) : a = k ∨ Anc ab p a := by
  induction h with
  | self => exact .inl rfl
  | up _ e ih =>
    rcases ih with rfl | ih
    · rw [hp] at e
      cases e
      exact .inr .self
    · exact .inr (ih.up e)
theorem Abv.mem_lt {k : Nat} {l : List Nat} (c : Abv ab k l) : ∀ j ∈ l, j < ab.length := by
  induction c with
  | root e => intro j hj; rw [List.mem_singleton] at hj; subst hj; exact (List.getElem?_eq_some_iff.mp e).1
  | up e _ ih =>
    intro j hj
    rcases List.mem_cons.mp hj with rfl | h
    · exact (List.getElem?_eq_some_iff.mp e).1
    · exact ih j h
end
end KM


set_option Elab.async false
set_option linter.all false
set_option maxRecDepth 100000
namespace KD
open PySem L2 KM PyProof.Rows
structure KitD (P : Program) (w : World) (K : PySem.W.Frag) (mg : Str → Option Value) (base : Heap) (k : Nat) (x : Str) (ps : List Str) (sp : Sp) (f : Addr) (fd : FuncData) : Prop where
  ok : FnOk P w K mg base (CXe P w) k f fd ps sp
  bd : Binds K fd ps []
  bd1 : Binds K fd ps [.none]
  kp : PySem.W.keepIn K (.ref f) = true
  mg : mg x = some (.ref f)
theorem KitE.quiet {P : Program} {w : World} {K : PySem.W.Frag} {mg : Str → Option Value} {base : Heap} {k : Nat} {x : Str} {ps : List Str} {sp sp' : Sp} {f : Addr} {fd : FuncData} (G : KitE P w K mg base k x ps sp f fd)
    (h : ∀ vs H Q E, sp' vs H Q E → sp vs H Q E0) : Kit P w K mg base k x ps sp' f fd := ⟨G.ok.quiet h, G.bd, G.kp, G.mg⟩
theorem vals_non : Vals [V.non] [Value.none] := .cons (show RelV .non .none from rfl) .nil
structure ListsAt (H : Hp) (u : Addr) (as : List Addr) (n : Nat) (kd : Nat → List Nat) : Prop where
  top : H u = some (.lst (as.map V.ref))
  len : as.length = n
  each : ∀ (i : Nat) (c : Addr), as[i]? = some c → H c = some (.lst ((kd i).map vN))
theorem ListsAt.same {H H' : Hp} {u : Addr} {as : List Addr} {n : Nat} {kd : Nat → List Nat} (U : ListsAt H u as n kd) (s : Same H H') : ListsAt H' u as n kd := ⟨s _ _ U.top, U.len, fun i c h => s _ _ (U.each i c h)⟩
theorem UnderAt.lists {H : Hp} {u : Addr} {as : List Addr} {ab : Ab} (U : UnderAt H u as ab) : ListsAt H u as ab.length (kids ab) := ⟨U.top, U.len, U.each⟩
def spDownK : Sp := fun vs H Q _ => ∃ (u : Addr) (as : List Addr) (ab : Ab) (kd : Nat → List Nat) (r : Nat), vs = [vN r, .ref u] ∧ ListsAt H u as ab.length kd ∧ (∀ k, k < ab.length → (kd k).Perm (kids ab k)) ∧ ab[r]? = some none ∧ ab.length ≤ 1000 ∧
  ∀ (o : Addr) (ord : List Nat) (H' : Hp), Same H H' → H' o = some (.lst (ord.map vN)) → BfsK ab kd r ord ord.length → Q (.ref o) H'
def fms (ab : Ab) (m : Option Nat) : List Tx := (List.range ab.length).map (fmM ab m)
theorem fms_len (ab : Ab) (m : Option Nat) : (fms ab m).length = ab.length := by unfold fms; rw [List.length_map, List.length_range]
theorem fms_get {ab : Ab} {m : Option Nat} {k : Nat} (h : k < ab.length) : (fms ab m)[k]? = some (fmM ab m k) := by
  unfold fms
  rw [List.getElem?_map, List.getElem?_range h]
  rfl
def spKnots (C : Addr) : Sp := fun vs H Q E => ∃ (a : Addr) (A : AI) (m : Option Nat), vs = [.ref a, vO m] ∧ H a = some (.lst (A.map vI)) ∧ A.length < 64 ∧
  (∀ (ab : Ab) (r : Nat) (rk : Nat → Nat) (p : Addr) (H' : Hp), A = ab.map toI → Tree ab r rk → Same H H' → H p = none → H' p = some (.lst ((fms ab m).map vT)) → Q (.ref p) H') ∧ (¬ Rtd A → ∀ H', Same H H' → E (.ref C) none H')
theorem kids_lt_len {ab : Ab} {r : Nat} (hr : ab[r]? = some none) (k : Nat) : (kids ab k).length < ab.length := by
  have nd : (r :: kids ab k).Nodup := List.nodup_cons.mpr ⟨(fun h => (by rw [mem_kids.mp h] at hr; cases hr)), kids_nodup ab k⟩
  have h := nd.length_le_of_subset (l₂ := List.range ab.length) fun j hj => List.mem_range.mpr (by
    rcases List.mem_cons.mp hj with e | e
    · rw [e]; exact (List.getElem?_eq_some_iff.mp hr).1
    · exact kids_lt e)
  rw [List.length_range, List.length_cons] at h
  omega
structure FilledM (ab : Ab) (m : Option Nat) (ord : List Nat) (fs : List Tx) (i : Nat) : Prop where
  len : fs.length = ab.length
  done : ∀ (j k : Nat), ord.length - i ≤ j → ord[j]? = some k → fs[k]? = some (fmM ab m k)
theorem FilledM.kid {ab : Ab} {r : Nat} {m : Option Nat} {ord : List Nat} {fs : List Tx} {i k c : Nat} (B : Bfs ab r ord ord.length) (F : FilledM ab m ord fs i) (hi : i < ord.length) (hk : ord[ord.length - 1 - i]? = some k) (hc : c ∈ kids ab k) : fs[c]? = some (fmM ab m c) := by
  obtain ⟨j, hj, hjc⟩ := B.late _ k c (by omega) hk hc
  exact F.done j c (by omega) hjc
theorem FilledM.step {ab : Ab} {r : Nat} {rk : Nat → Nat} (T : Tree ab r rk) {m : Option Nat} {ord : List Nat} {fs : List Tx} {i k : Nat} (B : Bfs ab r ord ord.length) (F : FilledM ab m ord fs i) (hi : i < ord.length) (hk : ord[ord.length - 1 - i]? = some k) :
    FilledM ab m ord (fs.set k (brk (srt ((kids ab k).map (fmM ab m) ++ mrk m k)).flatten)) (i + 1) := by
  have hkl : k < ab.length := B.lt k (List.mem_iff_getElem?.mpr ⟨_, hk⟩)
  refine ⟨by rw [List.length_set]; exact F.len, fun j k' hj hk' => ?_⟩
  rw [List.getElem?_set]
  by_cases e : k = k'
  · subst e
    rw [if_pos rfl, if_pos (by rw [F.len]; exact hkl), T.fmM_eq m hkl]
  · rw [if_neg e]
    refine F.done j k' ?_ hk'
    by_cases h : ord.length - i ≤ j
    · exact h
    · exfalso
      have : j = ord.length - 1 - i := by omega
      subst this
      rw [hk] at hk'
      exact e (Option.some.inj hk')
theorem FilledM.all {ab : Ab} {r : Nat} {rk : Nat → Nat} (T : Tree ab r rk) {m : Option Nat} {ord : List Nat} {fs : List Tx} (B : Bfs ab r ord ord.length) (F : FilledM ab m ord fs ord.length) : fs = fms ab m := by
  refine List.ext_getElem? fun k => ?_
  by_cases h : k < ab.length
  · obtain ⟨j, hj⟩ := List.mem_iff_getElem?.mp (B.all T _ k (Nat.le_refl _) h)
    rw [F.done j k (by omega) hj, fms_get h]
  · rw [List.getElem?_eq_none (by rw [F.len]; omega), List.getElem?_eq_none (by rw [fms_len]; omega)]
end KD
namespace KD
open PySem L2 KM PyProof.Rows
theorem toI_inj : ∀ {a b : Ab}, a.map toI = b.map toI → a = b := fun {a b} h => by
  have := congrArg (List.map ofI) h
  rwa [map_back, map_back] at this
end KD


set_option Elab.async false
set_option linter.all false
set_option maxRecDepth 100000
namespace L2
open PySem PySem.Spec PyProof.Rows
def Kept (s s' : Shared) : Prop := ∃ (h' : Heap) (tk : Nat), s' = { s with heap := h', toks := tk } ∧ ∀ b o, s.heap.get? b = some o → h'.get? b = some o
theorem Kept.refl (s : Shared) : Kept s s := ⟨s.heap, s.toks, rfl, fun _ _ e => e⟩
theorem Kept.trans {s s1 s2 : Shared} (a : Kept s s1) (b : Kept s1 s2) : Kept s s2 := by
  obtain ⟨h1, t1, rfl, k1⟩ := a
  obtain ⟨h2, t2, rfl, k2⟩ := b
  exact ⟨h2, t2, rfl, fun c o e => k2 c o (k1 c o e)⟩
section
variable {prog : Program} {w : World} {A : Around} {E : Value → Shared → Prop}
end
end L2


set_option Elab.async false
set_option linter.all false
set_option maxRecDepth 100000
namespace L2
open PySem PySem.Spec PyProof.Rows
section
variable {prog : Program} {w : World} {A : Around} {s : Shared}
end
def lamFd (q : Str) (ps : Arguments) (e : Expr) (sc : Scope) (cl : List (Str × Addr)) (ct cd pm : Value) : FuncData :=
  { name := "<lambda>", qualname := q, params := ps, body := .expr e, scope := sc, globals := mainGlobals, closure := cl, closureTuple := ct, code := cd, builtins := builtinsNs, defaults := .none, kwdefaults := .none, annotations := none, pyModule := pm, doc := .none }
structure LamIx (ps : Arguments) (e : Expr) (sc : Scope) (x y : Str) : Prop where
  body : ∃ p1 p2 p3, e = .Subscript (.Name y p1) (.Name x p2) p3
  names : sc.names = [(x, .local), (y, .free)]
  kind : sc.kind = .function
  co : sc.isCoroutine = false
  gen : sc.isGenerator = false
  ne : x ≠ y
  dx : (x == ("__debug__" : Str)) = false
  dy : (y == ("__debug__" : Str)) = false
  dc : (y == ("__classdict__" : Str)) = false
  bind : ∀ (q : Str) (cl : List (Str × Addr)) (ct cd pm v : Value), bindArgs (lamFd q ps e sc cl ct cd pm) ⟨[v], []⟩ = pure [(x, v)]
section
variable {prog : Program} {w : World} {A : Around} {s0 : Shared} {ps : Arguments} {e : Expr} {sc : Scope} {x y : Str}
end
section
variable {M : Model} {A : Around} {E : Value → Shared → Prop} {s : Shared} {ps : Arguments} {e : Expr} {sc : Scope} {y : Str} {env : Env} {pos : Pos}
end
end L2


set_option Elab.async false
set_option linter.all false
set_option maxRecDepth 100000
namespace L2
open PySem PySem.Spec PyProof.Rows
def tabO (P : Addr) (tb : Array Value) : HO := .ext fun h => h.get? P = some { cls := .none, data := .fields tb }
def codO (c : Addr) (q : Str) : HO := .ext fun h => h.CodeRec (.ref c) q
def Tab (P : Addr) (pos : Pos) (q : Str) (H : Hp) : Prop := H P = some (tabO P #[]) ∨ ∃ c', H P = some (tabO P #[rawInt pos.line, rawInt pos.col, .ref c']) ∧ H c' = some (codO c' q)
def SameT (P : Addr) (H H' : Hp) : Prop := ∀ b o, b ≠ P → H b = some o → H' b = some o
theorem SameT.of {P : Addr} {H H' : Hp} (s : Same H H') : SameT P H H' := fun b o _ h => s b o h
theorem SameT.refl {P : Addr} (H : Hp) : SameT P H H := fun _ _ _ h => h
theorem SameT.trans {P : Addr} {H H1 H2 : Hp} (a : SameT P H H1) (b : SameT P H1 H2) : SameT P H H2 := fun c o n h => b c o n (a c o n h)
theorem Tab.same {P : Addr} {pos : Pos} {q : Str} {H H' : Hp} (t : Tab P pos q H) (s : Same H H') : Tab P pos q H' := by
  rcases t with t | ⟨c', t1, t2⟩
  · exact .inl (s _ _ t)
  · exact .inr ⟨c', s _ _ t1, s _ _ t2⟩
theorem Tab.ne {P : Addr} {pos : Pos} {q : Str} {H : Hp} (t : Tab P pos q H) {a : Addr} {o : HO} (h : H a = some o) (ho : ∀ φ, o ≠ .ext φ) : a ≠ P := by
  intro z
  subst z
  rcases t with t | ⟨c', t1, _⟩
  · rw [h] at t; exact ho _ (Option.some.inj t)
  · rw [h] at t1; exact ho _ (Option.some.inj t1)
theorem Tab.new {P : Addr} {pos : Pos} {q : Str} {H : Hp} (t : Tab P pos q H) {a : Addr} (h : H a = none) : a ≠ P := by
  intro z
  subst z
  rcases t with t | ⟨c', t1, _⟩
  · rw [h] at t; cases t
  · rw [h] at t1; cases t1
theorem SameT.free {P : Addr} {H H' : Hp} {pos : Pos} {q : Str} (s : SameT P H H') (t : Tab P pos q H') {l : Addr} (h : H' l = none) : l = P ∨ H l = none := by
  by_cases e : l = P
  · exact .inl e
  · right
    cases z : H l with
    | none => rfl
    | some o => rw [s l o e z] at h; cases h
structure CodeK (K : PySem.W.Frag) (c P : Addr) : Prop where
  ex : ∃ (o : Obj) (vs : Array Value) (file : Str) (tf : Tok) (flags : Int) (tg : Tok) (inF : Bool) (text : Int) (tt : Tok), K.lookup c = some o ∧ o.cls = .type "code" ∧ o.data = .fields vs ∧ vs[11]? = some (.ref P) ∧ vs.getD 18 .none = .str file tf ∧
    vs.getD 7 .none = .int flags tg ∧ vs.getD 9 .none = .bool inF ∧ vs.getD 10 .none = .int text tt
def modO : Obj := { cls := .type "module", dict := some builtinsNs, data := .plain }
structure BltK (K : PySem.W.Frag) (base : Heap) (bm : Addr) : Prop where
  ns : PySem.W.nsIn K mainGlobals "__builtins__" = some (some (.ref bm))
  ex : base.get? bm = some modO
  n1 : bm ≠ builtinsNs
  n2 : bm ≠ mainGlobals
section
variable {X : Cx} {e : Expr} {te : TE} {ps : Arguments} {sc : Scope} {body : Expr} {lpos kp p pos : Pos} {x y : Str} {j : Nat} {c P bm cf : Addr}
end
end L2


set_option Elab.async false
set_option linter.all false
set_option maxRecDepth 100000
namespace L2
open PySem PySem.Spec PyProof.Rows
end L2


set_option Elab.async false
set_option linter.all false
set_option maxRecDepth 100000
namespace L2
open PySem PySem.Spec PyProof.Rows
structure FunC (K : PySem.W.Frag) (x qual : Str) (st : Stmt) (f c : Addr) (fd : FuncData) : Prop where
  ex : ∃ (oc : Value) (od : Option Addr) (kV doc pm : Value) (an : Option Addr) (ct : Value) (osl : Array (Option Value)),
    fd = PySem.W.fnOf x qual (defArgs st) (defBody st) (defScope st) .none kV doc pm an (.ref c) ct ∧ K.lookup f = some ⟨oc, od, .func fd, osl⟩ ∧ PySem.W.codeIn K (.ref c) qual = true
  kp : PySem.W.keepIn K (.ref f) = true
section
variable {P : Program} {w : World} {K : PySem.W.Frag} {mg : Str → Option Value} {base : Heap}
theorem FunC.ok {x qual : Str} {st : Stmt} {f c : Addr} {fd : FuncData} {N ps : List Str} {k : Nat} {sp : Sp} (F : FunC K x qual st f c fd) (S : FnScope N ps (defScope st)) (len : ∀ vs H Q E, sp vs H Q E → vs.length = ps.length)
    (hbody : ∀ (A : Around) (outer : List Env) (s : Shared) (H : Hp) (vs : List V) (Q : VK) (E : XK), Room k (A.deeper (envOfC qual (defScope st) s.heap.objs.size f (.ref c))) → sp vs H Q E →
      ∃ t, PSs (cxOf CX0 P w K mg base N qual (defScope st) f (.ref c) A outer s H E).nox (defBody st) t ∧ t { nx := fun _ H' => Q .non H', rt := Q } (start N vs) H) : FnOk P w K mg base CX0 (k + 1) f fd ps sp := by
  obtain ⟨oc, od, kV, doc, pm, an, ct, osl, rfl, lk, hcd⟩ := F.ex
  refine fn_of lk hcd S len fun A outer s H vs Q E hr hsp => ?_
  obtain ⟨t, h, q⟩ := hbody A outer s H vs Q E hr hsp
  exact ⟨t, h.nox, q⟩
theorem FunC.fun {x qual : Str} {st : Stmt} {f c : Addr} {fd : FuncData} (F : FunC K x qual st f c fd) : Fun K x qual st f fd := by
  obtain ⟨oc, od, kV, doc, pm, an, ct, osl, e, lk, hcd⟩ := F.ex
  exact ⟨⟨oc, od, kV, doc, pm, an, .ref c, ct, osl, e, lk, hcd⟩, F.kp⟩
end
section
variable {X : Cx}
end
end L2


set_option Elab.async false
set_option linter.all false
set_option maxRecDepth 100000
namespace L2
open PySem PySem.Spec PyProof.Rows

section
variable {κ : Type} [DecidableEq κ]
def valV (kvs : List (κ × V)) (k : κ) : Option V := (kvs.find? fun kv => decide (kv.1 = k)).map (·.2)
def putK (kvs : List (κ × V)) (k : κ) (v : V) : List (κ × V) :=
  if (kvs.any fun kv => decide (kv.1 = k)) = true then kvs.map (fun kv => if kv.1 = k then (kv.1, v) else kv) else kvs ++ [(k, v)]
def dropK (kvs : List (κ × V)) (k : κ) : List (κ × V) := kvs.filter fun kv => decide (kv.1 ≠ k)

theorem valV_pos {p : κ × V} {r : List (κ × V)} {k : κ} (e : p.1 = k) : valV (p :: r) k = some p.2 := by simp [valV, List.find?_cons, e]
theorem valV_neg {p : κ × V} {r : List (κ × V)} {k : κ} (e : ¬ p.1 = k) : valV (p :: r) k = valV r k := by simp [valV, List.find?_cons, e]
theorem valV_any (k : κ) : ∀ kvs : List (κ × V), (kvs.any fun kv => decide (kv.1 = k)) = (valV kvs k).isSome
  | [] => rfl
  | p :: r => by
    rw [List.any_cons]
    by_cases e : p.1 = k
    · simp only [valV_pos e, decide_eq_true e, Bool.true_or, Option.isSome_some]
    · rw [valV_neg e, decide_eq_false e, Bool.false_or]; exact valV_any k r
theorem length_putK (kvs : List (κ × V)) (k : κ) (v : V) : (putK kvs k v).length ≤ kvs.length + 1 := by
  unfold putK
  split
  · rw [List.length_map]; omega
  · rw [List.length_append, List.length_cons, List.length_nil]; omega
theorem putK_new {kvs : List (κ × V)} {k : κ} (v : V) (h : valV kvs k = none) : putK kvs k v = kvs ++ [(k, v)] := by
  unfold putK
  rw [valV_any, h]
  exact if_neg (by decide)

theorem RelO.isSome_eq {o : Option V} {u : Option Value} (r : RelO o u) : o.isSome = u.isSome := by
  cases o with
  | none => cases u with
    | none => rfl
    | some _ => exact (show False from r).elim
  | some _ => cases u with
    | none => exact (show False from r).elim
    | some _ => rfl
theorem RelO.getD {o : Option V} {u : Option Value} {d : V} {d' : Value} (r : RelO o u) (rd : RelV d d') : RelV (o.getD d) (u.getD d') := by
  cases o with
  | none => cases u with
    | none => exact rd
    | some _ => exact (show False from r).elim
  | some _ => cases u with
    | none => exact (show False from r).elim
    | some _ => exact r

theorem KV.val {kvs : List (κ × V)} {vs : List (κ × Value)} (r : KV kvs vs) (k : κ) : RelO (valV kvs k) (valueAt vs k) := by
  unfold KV at r
  induction r with
  | nil => exact True.intro
  | @cons p q ps qs h t ih =>
    obtain ⟨h1, h2⟩ := h
    by_cases e : p.1 = k
    · have e' : q.1 = k := h1.symm.trans e
      have b : valueAt (q :: qs) k = some q.2 := by simp [valueAt, List.find?_cons, e']
      rw [valV_pos e, b]; exact h2
    · have e' : ¬ q.1 = k := fun z => e (h1.trans z)
      have b : valueAt (q :: qs) k = valueAt qs k := by simp [valueAt, List.find?_cons, e']
      rw [valV_neg e, b]; exact ih
theorem KV.any {kvs : List (κ × V)} {vs : List (κ × Value)} (r : KV kvs vs) (k : κ) : (kvs.any fun kv => decide (kv.1 = k)) = vs.any fun kv => decide (kv.1 = k) := by
  unfold KV at r
  induction r with
  | nil => rfl
  | cons h t ih => rw [List.any_cons, List.any_cons, ih, h.1]
theorem KV.repl {kvs : List (κ × V)} {vs : List (κ × Value)} (r : KV kvs vs) (k : κ) {y : V} {u : Value} (ry : RelV y u) :
    KV (kvs.map fun kv => if kv.1 = k then (kv.1, y) else kv) (vs.map fun kv => if kv.1 = k then (kv.1, u) else kv) := by
  unfold KV at r ⊢
  induction r with
  | nil => exact .nil
  | @cons p q ps qs h t ih =>
    rw [List.map_cons, List.map_cons]
    refine .cons ?_ ih
    obtain ⟨h1, h2⟩ := h
    by_cases e : p.1 = k
    · rw [if_pos e, if_pos (h1.symm.trans e)]; exact ⟨h1, ry⟩
    · rw [if_neg e, if_neg (fun z => e (h1.trans z))]; exact ⟨h1, h2⟩
theorem KV.put {kvs : List (κ × V)} {vs : List (κ × Value)} (r : KV kvs vs) (k : κ) {y : V} {u : Value} (ry : RelV y u) : KV (putK kvs k y) (stored vs k u) := by
  unfold putK stored
  rw [r.any k]
  by_cases e : (vs.any fun kv => decide (kv.1 = k)) = true
  · rw [if_pos e, if_pos e]; exact r.repl k ry
  · rw [if_neg e, if_neg e]; exact Paired.snoc r ⟨rfl, ry⟩
theorem KV.drop {kvs : List (κ × V)} {vs : List (κ × Value)} (r : KV kvs vs) (k : κ) : KV (dropK kvs k) (without vs k) := by
  unfold KV at r ⊢
  unfold dropK without
  induction r with
  | nil => exact .nil
  | @cons p q ps qs h t ih =>
    obtain ⟨h1, h2⟩ := h
    rw [List.filter_cons, List.filter_cons]
    by_cases e : p.1 = k
    · have a : ¬ decide (p.1 ≠ k) = true := by simp [e]
      have b : ¬ decide (q.1 ≠ k) = true := by simp [h1.symm.trans e]
      rw [if_neg a, if_neg b]; exact ih
    · have e' : ¬ q.1 = k := fun z => e (h1.trans z)
      have a : decide (p.1 ≠ k) = true := by simp [e]
      have b : decide (q.1 ≠ k) = true := by simp [e']
      rw [if_pos a, if_pos b]; exact .cons ⟨h1, h2⟩ ih
theorem KV.keys {kvs : List (κ × V)} {vs : List (κ × Value)} (r : KV kvs vs) : kvs.map (·.1) = vs.map (·.1) := by
  unfold KV at r
  induction r with
  | nil => rfl
  | cons h t ih => rw [List.map_cons, List.map_cons, ih, h.1]
theorem KV.length {kvs : List (κ × V)} {vs : List (κ × Value)} (r : KV kvs vs) : kvs.length = vs.length := Paired.length r
end


theorem kV_is {P : Program} {w : World} {k : Key} {u : Value} (r : RelV (kV k) u) : (mixKind P w).is k u = true := by
  cases k with
  | inl i => obtain ⟨t, e⟩ := (show ∃ t, u = Value.int i t from r); subst e; exact mixKind_int P w i t
  | inr x => obtain ⟨t, e⟩ := (show ∃ t, u = Value.str x t from r); subst e; exact mixKind_str P w x t
theorem items_are {P : Program} {w : World} : ∀ {ks : List Key} {us : List Value}, Vals (ks.map kV) us → ItemsAre (mixKind P w) ks us
  | [], _, r => by rw [List.map_nil] at r; cases r; exact .nil
  | k :: ks, _, r => by
    rw [List.map_cons] at r
    cases r with
    | cons h t => exact .cons (kV_is h) (items_are t)

abbrev KT (H : Hp) : List (List Key × V) → List (List Key × Addr × Value) → Prop := Paired fun p q => p.1 = q.1 ∧ H q.2.1 = some (.tup (p.1.map kV)) ∧ RelV p.2 q.2.2
theorem KT.val {H : Hp} {kvs : List (List Key × V)} {xs : List (List Key × Addr × Value)} (r : KT H kvs xs) (k : List Key) : RelO (valV kvs k) ((atKey xs k).map (·.2)) := by
  induction r with
  | nil => exact True.intro
  | @cons p q ps qs h t ih =>
    obtain ⟨h1, _, h2⟩ := h
    by_cases e : p.1 = k
    · have e' : q.1 = k := h1.symm.trans e
      have b : atKey (q :: qs) k = some q.2 := by simp [atKey, List.find?_cons, e']
      rw [valV_pos e, b]; exact h2
    · have e' : ¬ q.1 = k := fun z => e (h1.trans z)
      have b : atKey (q :: qs) k = atKey qs k := by simp [atKey, List.find?_cons, e']
      rw [valV_neg e, b]; exact ih
theorem KT.repl {H : Hp} {kvs : List (List Key × V)} {xs : List (List Key × Addr × Value)} (r : KT H kvs xs) (k : List Key) {y : V} {u : Value} (ry : RelV y u) :
    KT H (kvs.map fun kv => if kv.1 = k then (kv.1, y) else kv) (xs.map (putAt k u)) := by
  induction r with
  | nil => exact .nil
  | @cons p q ps qs h t ih =>
    rw [List.map_cons, List.map_cons]
    refine .cons ?_ ih
    obtain ⟨h1, h2, h3⟩ := h
    unfold putAt
    by_cases e : p.1 = k
    · rw [if_pos e, if_pos (h1.symm.trans e)]; exact ⟨h1, h2, ry⟩
    · rw [if_neg e, if_neg (fun z => e (h1.trans z))]; exact ⟨h1, h2, h3⟩
theorem KT.put {H : Hp} {kvs : List (List Key × V)} {xs : List (List Key × Addr × Value)} (r : KT H kvs xs) (k : List Key) {b : Addr} {y : V} {u : Value} (hb : H b = some (.tup (k.map kV))) (ry : RelV y u) :
    KT H (putK kvs k y) (storedH xs k b u) := by
  have e : (kvs.any fun kv => decide (kv.1 = k)) = (atKey xs k).isSome := by
    rw [valV_any, (r.val k).isSome_eq, Option.isSome_map]
  unfold putK storedH
  rw [e]
  by_cases q : (atKey xs k).isSome = true
  · rw [if_pos q, if_pos q]; exact r.repl k ry
  · rw [if_neg q, if_neg q]; exact Paired.snoc r ⟨rfl, hb, ry⟩
theorem KT.keeps {H H' : Hp} {kvs : List (List Key × V)} {xs : List (List Key × Addr × Value)} (r : KT H kvs xs) (ht : ∀ b ys, H b = some (.tup ys) → H' b = some (.tup ys)) : KT H' kvs xs :=
  Paired.mapP r fun _ _ z => ⟨z.1, ht _ _ z.2.1, z.2.2⟩

section
variable {P : Program} {w : World} {H : Hp} {h : Heap} {a : Addr}
theorem rd_of {u : HO} (ok : HOk P w H h) (e : Rd H a u) : ObjOk P w H h a u := e.ok ok
theorem dk_rd {kvs : List (Key × V)} (ok : HOk P w H h) (e : Rd H a (.dK kvs)) : kvs.length ≤ sizeLine ∧ (a == sysModules) = false ∧ ∃ vs, KV kvs vs ∧ h.DictOf (mixKind P w) a vs :=
  show ObjOk P w H h a (.dK kvs) from rd_of ok e
theorem dk_of {kvs : List (Key × V)} (ok : HOk P w H h) (e : H a = some (.dK kvs)) : kvs.length ≤ sizeLine ∧ (a == sysModules) = false ∧ ∃ vs, KV kvs vs ∧ h.DictOf (mixKind P w) a vs := dk_rd ok (.inl e)
theorem key_of {ks : List Key} (ok : HOk P w H h) (e : H a = some (.tup (ks.map kV))) : (tupleKind (mixKind P w)).is h ks a := by
  obtain ⟨_, its, r, o, h1, h2, n, h3⟩ := (show ObjOk P w H h a (.tup (ks.map kV)) from ok a _ e)
  exact ⟨o, its.toArray, n, h1, h2, h3, by simpa using items_are r⟩
theorem dt_rd {kvs : List (List Key × V)} (ok : HOk P w H h) (e : Rd H a (.dT kvs)) : kvs.length ≤ sizeLine ∧ (a == sysModules) = false ∧
    ∃ xs, KT H kvs xs ∧ h.DictOfH (tupleKind (mixKind P w)) a xs := by
  obtain ⟨z, y, xs, r, o, es, ep, h1, h2, h3, h4, h5⟩ := (show ObjOk P w H h a (.dT kvs) from rd_of ok e)
  refine ⟨z, y, xs, r, o, es, ep, h1, h2, h3, h4, fun x hx => ?_, h5⟩
  have all : ∀ {l : List (List Key × V)} {m : List (List Key × Addr × Value)}, KT H l m → ∀ x ∈ m, (tupleKind (mixKind P w)).is h x.1 x.2.1 := by
    intro l m q
    induction q with
    | nil => intro x hx; exact nomatch hx
    | @cons p q ps qs hq t ih =>
      intro x hx
      rcases List.mem_cons.mp hx with e | hx
      · subst e
        exact key_of ok (by rw [← hq.1]; exact hq.2.1)
      · exact ih x hx
  exact all r x hx
theorem dt_of {kvs : List (List Key × V)} (ok : HOk P w H h) (e : H a = some (.dT kvs)) : kvs.length ≤ sizeLine ∧ (a == sysModules) = false ∧
    ∃ xs, KT H kvs xs ∧ h.DictOfH (tupleKind (mixKind P w)) a xs := dt_rd ok (.inl e)
end

def DGet (H : Hp) (a : Addr) (y : V) (r : Option V) : Prop :=
  (∃ kvs k, Rd H a (.dK kvs) ∧ y = kV k ∧ r = valV kvs k) ∨ ∃ kvs k b, Rd H a (.dT kvs) ∧ y = .ref b ∧ H b = some (.tup (k.map kV)) ∧ r = valV kvs k
def DPut (H : Hp) (a : Addr) (y v : V) (H' : Hp) : Prop :=
  (∃ kvs k, H a = some (.dK kvs) ∧ y = kV k ∧ kvs.length < sizeLine ∧ H' = upd H a (.dK (putK kvs k v))) ∨
  ∃ kvs k b, H a = some (.dT kvs) ∧ y = .ref b ∧ H b = some (.tup (k.map kV)) ∧ kvs.length < sizeLine ∧ H' = upd H a (.dT (putK kvs k v))
theorem DGet.k {H : Hp} {a : Addr} {kvs : List (Key × V)} {k : Key} (e : H a = some (.dK kvs)) : DGet H a (kV k) (valV kvs k) := .inl ⟨kvs, k, .inl e, rfl, rfl⟩
theorem DGet.t {H : Hp} {a b : Addr} {kvs : List (List Key × V)} {k : List Key} (e : H a = some (.dT kvs)) (eb : H b = some (.tup (k.map kV))) : DGet H a (.ref b) (valV kvs k) := .inr ⟨kvs, k, b, .inl e, rfl, eb, rfl⟩
theorem DPut.k {H : Hp} {a : Addr} {kvs : List (Key × V)} {k : Key} {v : V} (e : H a = some (.dK kvs)) (hl : kvs.length < sizeLine) : DPut H a (kV k) v (upd H a (.dK (putK kvs k v))) := .inl ⟨kvs, k, e, rfl, hl, rfl⟩
theorem DPut.t {H : Hp} {a b : Addr} {kvs : List (List Key × V)} {k : List Key} {v : V} (e : H a = some (.dT kvs)) (eb : H b = some (.tup (k.map kV))) (hl : kvs.length < sizeLine) :
    DPut H a (.ref b) v (upd H a (.dT (putK kvs k v))) := .inr ⟨kvs, k, b, e, rfl, eb, hl, rfl⟩


section
variable {X : Cx} {pins : List (Addr × Obj)} {σ : St} {H : Hp} {s : Shared} {a : Addr} {y v : V} {u r : Value} {o : Option V} {A : Around} {E : Value → Shared → Prop}

theorem Inv.big (I : Inv X pins σ H s) : sysModules < s.heap.objs.size := by
  have h : mainGlobals < s.heap.objs.size := (I.mod.glob.keeps I.bk).lt
  exact Nat.lt_trans (by decide) h

theorem d_getItem {Q : Value → Shared → Prop} (hu : A.units + 1 < cLine) (I : Inv X pins σ H s) (g : DGet H a y (some v)) (ry : RelV y u) (h : ∀ w' s', Inv X pins σ H s' → RelV v w' → Q w' s') :
    wpAny (model X.prog X.w) A (getItem (.ref a) u) Q E s := by
  rcases g with ⟨kvs, k, e, ey, l⟩ | ⟨kvs, k, b, e, ey, eb, l⟩
  · subst ey
    obtain ⟨z, hd, vs, rel, dd⟩ := dk_rd I.hok e
    obtain ⟨w', hw, rw'⟩ := RelO.some_of (v := v) (o := valueAt vs k) (by rw [l]; exact rel.val k)
    exact wpAny_getItem_of (kV_is ry) dd.mapOf hw (h w' _ (I.tok _) rw')
  · subst ey
    cases (show u = Value.ref b from ry)
    obtain ⟨z, hd, xs, rel, dd⟩ := dt_rd I.hok e
    obtain ⟨w', hw, rw'⟩ := RelO.some_of (v := v) (o := (atKey xs k).map (·.2)) (by rw [l]; exact rel.val k)
    obtain ⟨p, hp, hp2⟩ := Option.map_eq_some_iff.mp hw
    refine wpAny_getItem_heap (tupleKind_room_in1 hu) (key_of I.hok eb) dd hp ?_
    rw [hp2]
    exact h w' _ (I.tok _) rw'
theorem d_notIn {Q : Value → Shared → Prop} (hu : A.units + 1 < cLine) (I : Inv X pins σ H s) (g : DGet H a y o) (ry : RelV y u) (h : ∀ s', Inv X pins σ H s' → Q (.bool (!o.isSome)) s') :
    wpAny (model X.prog X.w) A (compareOp .NotIn u (.ref a)) Q E s := by
  rcases g with ⟨kvs, k, e, ey, l⟩ | ⟨kvs, k, b, e, ey, eb, l⟩
  · subst ey
    obtain ⟨z, hd, vs, rel, dd⟩ := dk_rd I.hok e
    refine wpAny_notIn_of (kV_is ry) hd dd.mapOf ?_
    rw [← (rel.val k).isSome_eq, ← l]
    exact h _ (I.tok _)
  · subst ey
    cases (show u = Value.ref b from ry)
    obtain ⟨z, hd, xs, rel, dd⟩ := dt_rd I.hok e
    refine wpAny_notIn_heap (tupleKind_room_in1 hu) (key_of I.hok eb) hd dd ?_
    have q := (rel.val k).isSome_eq
    rw [Option.isSome_map] at q
    rw [← q, ← l]
    exact h _ (I.tok _)
theorem d_write {h' : Heap} {t' : Nat} {ob : HO} (I : Inv X pins σ H s) (mu : Mut (H a)) (hs : Heap.SameBut a s.heap h') (he : ∃ q, h'.get? a = some q) (new : ObjOk X.prog X.w (upd H a ob) h' a ob) :
    Inv X pins σ (upd H a ob) { s with heap := h', toks := t' } :=
  I.write (x := a) (e := a) mu (.inl rfl) (fun b q hb z => (hs.2 b hb).trans z) he new
theorem dk_new {P : Program} {w : World} {H' : Hp} {h' : Heap} {kvs : List (Key × V)} {vs : List (Key × Value)} (z : kvs.length ≤ sizeLine) (hd : (a == sysModules) = false) (rel : KV kvs vs) (dd : h'.DictOf (mixKind P w) a vs) :
    ObjOk P w H' h' a (.dK kvs) := ⟨z, hd, vs, rel, dd⟩
theorem d_setItem {H' : Hp} {Q : Unit → Shared → Prop} (hu : A.units + 1 < cLine) (I : Inv X pins σ H s) (g : DPut H a y v H') (ry : RelV y u) (rv : RelV v r) (h : ∀ s', Inv X pins σ H' s' → Q () s') :
    wpAny (model X.prog X.w) A (setItem (.ref a) u r) Q E s := by
  rcases g with ⟨kvs, k, e, ey, l, eH⟩ | ⟨kvs, k, b, e, ey, eb, l, eH⟩
  · subst ey eH
    obtain ⟨z, hd, vs, rel, dd⟩ := dk_of I.hok e
    have hz : vs.length ≤ sizeLine := by rw [← rel.length]; exact z
    have hl : (putK kvs k v).length ≤ sizeLine := by have := length_putK kvs k v; omega
    refine wpAny_setItem_pairs (hsz := hz) (kV_is ry) dd fun h' dd' hs => h _ ?_
    have he : ∃ q, h'.get? a = some q := let ⟨q, _, _, hq, _⟩ := dd'; ⟨q, hq⟩
    exact d_write I (by rw [e]; exact True.intro) hs he (dk_new hl hd (rel.put k rv) dd')
  · subst ey eH
    cases (show u = Value.ref b from ry)
    obtain ⟨z, hd, xs, rel, dd⟩ := dt_of I.hok e
    have hz : xs.length ≤ sizeLine := by rw [← Paired.length rel]; exact z
    have hl : (putK kvs k v).length ≤ sizeLine := by have := length_putK kvs k v; omega
    refine wpAny_setItem_heap (hsz := hz) (tupleKind_room_in1 hu) (key_of I.hok eb) dd fun h' dd' hs => h _ ?_
    obtain ⟨q, es, ep, hq, h2, h3, h4, _, h5⟩ := dd'
    refine d_write I (by rw [e]; exact True.intro) hs ⟨q, hq⟩ ⟨hl, hd, _, (rel.put k eb rv).keeps fun c ys ec => ?_, q, es, ep, hq, h2, h3, h4, h5⟩
    rw [upd_ne (ne_of ec e (fun z => nomatch z))]
    exact ec
end

section
variable {X : Cx} {pins : List (Addr × Obj)} {σ : St} {H : Hp} {s : Shared} {a : Addr} {kvs : List (Key × V)} {k : Key} {u : Value} {A : Around} {E : Value → Shared → Prop}
end


def NoSl (i : Expr) : Prop := ∀ ov iv, subscripted i false ov iv = operate [ov, iv] (getItem ov iv)
theorem subD_of {prog : Program} {w : World} {A : Around} {E : Value → Shared → Prop} {s : Shared} {env : Env} {value slice : Expr} {pos : Pos} {T id : String} {Q : Value → Shared → Prop}
    (hl : typeLookup (.type T) "__getitem__" = pure (some (.builtin id))) (hs : NoSl slice)
    (h : wpAny (model prog w) A (eval value env) (fun o s₁ => wpAny (model prog w) A (eval slice env) (fun i s₂ => s₂.TypeIs o T ∧ wpAny (model prog w) A (getItem o i) Q E s₂) E s₁) E s) :
    wpAny (model prog w) A (eval (.Subscript value slice pos) env) Q E s := by
  refine Subscript_ (wpAny_mono h (fun o s₁ h₁ => wpAny_mono h₁ (fun i s₂ h₂ => ?_) fun _ _ x => x) fun _ _ x => x)
  obtain ⟨hT, h₂⟩ := h₂
  unfold subscriptTail
  refine wpAny_bind ?_
  rw [getitemInPython_of_ne hT.not_modules]
  refine wpAny_bind (wpAny_specialOf hT hl ?_)
  have fin : wpAny (model prog w) A (subscripted slice false o i) (fun r s₃ => wpAny (model prog w) A (letTemporaryGo value o r >>= fun _ => pure r) Q E s₃) E s₂ := by
    rw [hs o i]
    exact wpAny_operating (wpAny_mono h₂ (fun r s₃ h₃ => wpAny_bind (wpAny_letTemporaryGo (wpAny_pure h₃))) fun _ _ x => x)
  first
    | exact wpAny_pure (wpAny_bind fin)
    | exact wpAny_bind (wpAny_pure (wpAny_bind fin))
    | exact wpAny_bind fin

theorem dict_typeIs {X : Cx} {pins : List (Addr × Obj)} {σ : St} {H : Hp} {s : Shared} {a : Addr} {y : V} {o : Option V} (I : Inv X pins σ H s) (g : DGet H a y o) : s.TypeIs (.ref a) "dict" := by
  rcases g with ⟨kvs, k, e, _, _⟩ | ⟨kvs, k, b, e, _, _, _⟩
  · obtain ⟨_, _, vs, _, dd⟩ := dk_rd I.hok e
    exact dd.typeIs
  · obtain ⟨_, _, xs, _, dd⟩ := dt_rd I.hok e
    exact dd.typeIs
def tDGet (td ty : TE) : TE := fun σ H Q => td σ H fun x H1 => ty σ H1 fun y H2 => ∃ a v, x = .ref a ∧ DGet H2 a y (some v) ∧ Q v H2
def tDNotIn (ty td : TE) : TE := fun σ H Q => ty σ H fun y H1 => td σ H1 fun x H2 => ∃ a o, x = .ref a ∧ DGet H2 a y o ∧ Q (.bl (!o.isSome)) H2
def sDPut (td ty tv : TE) : TS := fun D σ H => tv σ H fun v H1 => td σ H1 fun x H2 => ty σ H2 fun y H3 => ∃ a H4, x = .ref a ∧ DPut H3 a y v H4 ∧ D.nx σ H4
section
variable {X : Cx} {o i e value : Expr} {pos pos' tpos : Pos} {td ty tv : TE}
theorem pe_dget (hu : X.A.units + 1 < cLine) (ho : PE X o td) (hi : PE X i ty) (hs : NoSl i) : PE X (.Subscript o i pos) (tDGet td ty) := by
  intro pins s σ H Q I h
  refine subD_of PySem.F.slot_dict_getitem.lookup hs (thn (ho pins s σ H _ I h) fun u s1 ⟨x, H1, I1, rx, q1⟩ => thn (hi pins s1 σ H1 _ I1 q1) fun iv s2 ⟨y, H2, I2, ry, a, v, ex, g, q2⟩ => ?_)
  subst ex
  obtain rfl : u = Value.ref a := rx
  exact ⟨dict_typeIs I2 g, d_getItem hu I2 g ry fun w' s3 I3 rw' => ⟨v, H2, I3, rw', q2⟩⟩
theorem pc_dnotin (hu : X.A.units + 1 < cLine) (hi : PE X i ty) (ho : PE X o td) : PC X .NotIn i o (tDNotIn ty td) := by
  intro pins s σ H Q I h
  refine thn (hi pins s σ H _ I h) fun iv s1 ⟨y, H1, I1, ry, q1⟩ => thn (ho pins s1 σ H1 _ I1 q1) fun u s2 ⟨x, H2, I2, rx, a, ov, ex, g, q2⟩ => ?_
  subst ex
  obtain rfl : u = Value.ref a := rx
  exact d_notIn hu I2 g ry fun s3 I3 => ⟨.bl (!ov.isSome), H2, I3, rfl, q2⟩
theorem ps_dput (hu : X.A.units + 1 < cLine) (ho : PE X o td) (hi : PE X i ty) (hv : PE X value tv) (hs : swapsWith value (some (.Subscript o i pos')) pos.line X.env = pure false) :
    PS X (.Assign [.Subscript o i pos'] value pos) (sDPut td ty tv) := by
  intro pins s σ H D I h
  refine wpAny_Assign_Subscript (thn (hv pins s σ H _ I h) fun r s1 ⟨v, H1, I1, rv, q1⟩ => thn (ho pins s1 σ H1 _ I1 q1) fun u s2 ⟨x, H2, I2, rx, q2⟩ => thn (hi pins s2 σ H2 _ I2 q2) fun iv s3 ⟨y, H3, I3, ry, a, H4, ex, g, q3⟩ => ?_) hs
  subst ex
  obtain rfl : u = Value.ref a := rx
  exact d_setItem hu I3 g ry rv fun s4 I4 => ⟨σ, H4, I4, q3⟩
end


theorem dk_empty {P : Program} {w : World} {H : Hp} (h : Heap) (hb : sysModules < h.objs.size) : ObjOk P w H (h.push { cls := .type "dict", data := .dict #[] }) h.objs.size (.dK []) :=
  ⟨Nat.zero_le _, beq_eq_false_iff_ne.mpr (Ne.symm (Nat.ne_of_lt hb)), [], .nil, Heap.DictOf.new h⟩
def tDNewK : TE := fun _ H Q => ∀ p, H p = none → Q (.ref p) (upd H p (.dK []))
section
variable {X : Cx} {pos : Pos}
theorem pe_dnewK : PE X (.Dict [] [] pos) tDNewK := fun pins s σ H Q I h =>
  wpAny_Dict_empty ⟨.ref s.heap.objs.size, _, I.laid (a := s.heap.objs.size) (o := .dK []) (t' := s.toks) (fun _ _ q => Heap.get?_push_of_some _ q) (Nat.le_refl _) (dk_empty s.heap I.big), rfl, h _ (I.hok.fresh (Nat.le_refl _))⟩
end

def tPairs : List (TE × TE) → St → Hp → (List (V × V) → Hp → Prop) → Prop
  | [], _, H, Q => Q [] H
  | (tk, tv) :: r, σ, H, Q => tk σ H fun x H1 => tv σ H1 fun y H2 => tPairs r σ H2 fun ps H3 => Q ((x, y) :: ps) H3
abbrev VV : List (V × V) → List (Value × Value) → Prop := Paired fun p q => RelV p.1 q.1 ∧ RelV p.2 q.2
def PPs (X : Cx) (pos : Pos) (keys : List (Option Expr)) (values : List Expr) (trs : List (TE × TE)) : Prop :=
  ∀ (pins : List (Addr × Obj)) (s : Shared) (σ : St) (H : Hp) (Q : List (V × V) → Hp → Prop), Inv X pins σ H s → tPairs trs σ H Q →
    wpAny (model X.prog X.w) X.A (evalPairs (pairTrees keys values X.env pos)) (fun vs s' => ∃ ps H', Inv X pins σ H' s' ∧ VV ps vs ∧ Q ps H') X.xe s
theorem pps_nil {X : Cx} {pos : Pos} : PPs X pos [] [] [] := fun pins s σ H Q I h => pairTrees_nil_walk ⟨[], H, I, .nil, h⟩
theorem pps_cons {X : Cx} {pos : Pos} {k v : Expr} {ks : List (Option Expr)} {vs : List Expr} {tk tv : TE} {trs : List (TE × TE)} (hk : PE X k tk) (hv : PE X v tv) (hr : PPs X pos ks vs trs) :
    PPs X pos (some k :: ks) (v :: vs) ((tk, tv) :: trs) := fun pins s σ H Q I h =>
  pairTrees_cons_walk (thn (hk pins s σ H _ I h) fun u s1 ⟨x, H1, I1, rx, q1⟩ => thn (hv pins s1 σ H1 _ I1 q1) fun w2 s2 ⟨y, H2, I2, ry, q2⟩ =>
    thn (hr pins s2 σ H2 _ I2 q2) fun ws s3 ⟨ps, H3, I3, rel, q3⟩ => ⟨(x, y) :: ps, H3, I3, .cons ⟨rx, ry⟩ rel, q3⟩)

def mergeK (kvs more : List (Key × V)) : List (Key × V) := more.foldl (fun acc kv => putK acc kv.1 kv.2) kvs
theorem KV.merge : ∀ {more : List (Key × V)} {rs : List (Key × Value)} {kvs : List (Key × V)} {vs : List (Key × Value)}, KV more rs → KV kvs vs → KV (mergeK kvs more) (merged vs rs) := by
  intro more rs kvs vs r
  unfold KV at r
  induction r generalizing kvs vs with
  | nil => intro q; exact q
  | @cons p q ps qs h t ih =>
    intro r0
    have e : KV (putK kvs p.1 p.2) (stored vs q.1 q.2) := by
      have := r0.put p.1 h.2
      rw [← h.1]; exact this
    exact ih e
theorem length_mergeK : ∀ (more kvs : List (Key × V)), (mergeK kvs more).length ≤ kvs.length + more.length
  | [], kvs => by show kvs.length ≤ kvs.length + 0; omega
  | p :: r, kvs => by
    have h1 := length_mergeK r (putK kvs p.1 p.2)
    have h2 := length_putK kvs p.1 p.2
    show (mergeK (putK kvs p.1 p.2) r).length ≤ _
    rw [List.length_cons]; omega
theorem carries_of {P : Program} {w : World} : ∀ {kvs : List (Key × V)} {ws : List (Value × Value)}, VV (kvs.map fun kv => (kV kv.1, kv.2)) ws → ∃ rs, Carries (mixKind P w) ws rs ∧ KV kvs rs
  | [], _, r => by rw [List.map_nil] at r; cases r; exact ⟨[], True.intro, .nil⟩
  | p :: kvs, _, r => by
    rw [List.map_cons] at r
    cases r with
    | @cons a b as bs h t =>
      obtain ⟨rs, c, q⟩ := carries_of (P := P) (w := w) t
      obtain ⟨b1, b2⟩ := b
      exact ⟨(p.1, b2) :: rs, ⟨kV_is h.1, rfl, c⟩, .cons ⟨rfl, h.2⟩ q⟩
def tDisp (trs : List (TE × TE)) : TE := fun σ H Q => ∀ p, H p = none → tPairs trs σ (upd H p (.dK [])) fun ps H2 => H2 p = some (.dK []) ∧ ∃ kvs : List (Key × V), ps = kvs.map (fun kv => (kV kv.1, kv.2)) ∧ kvs.length ≤ 15 ∧ Q (.ref p) (upd H2 p (.dK (mergeK [] kvs)))
theorem pe_disp {X : Cx} {pos : Pos} {keys : List (Option Expr)} {values : List Expr} {trs : List (TE × TE)} (h : PPs X pos keys values trs) (hall : keys.all (·.isSome) = true) (hl : keys.length = values.length) (h0 : keys ≠ [])
    (h15 : keys.length ≤ 15) : PE X (.Dict keys values pos) (tDisp trs) := by
  intro pins s σ H Q I q
  have hn := I.hok.fresh (Nat.le_refl s.heap.objs.size)
  have I1 := I.laid (a := s.heap.objs.size) (o := .dK []) (h' := s.heap.push { cls := .type "dict", data := .dict #[] }) (t' := s.toks) (fun _ _ q => Heap.get?_push_of_some _ q) (Nat.le_refl _) (dk_empty s.heap I.big)
  refine wpAny_Dict_walk (knd := mixKind X.prog X.w) hall hl h0 h15 (thn (h pins _ σ _ _ I1 (q _ hn)) fun ws s2 ⟨ps, H2, I2, rel, e, kvs, ep, lk, q2⟩ => ?_)
  subst ep
  obtain ⟨rs, c, rk⟩ := carries_of (P := X.prog) (w := X.w) rel
  obtain ⟨z, hd, vs0, r0, dd⟩ := dk_of I2.hok e
  cases r0
  refine ⟨rs, c, dd, fun h' dd' hs => ⟨.ref s.heap.objs.size, _, ?_, rfl, q2⟩⟩
  have hz : (mergeK [] kvs).length ≤ sizeLine := by
    have h1 := length_mergeK kvs []
    rw [List.length_nil] at h1
    rw [sizeLine_eq]; omega
  have he : ∃ q, h'.get? s.heap.objs.size = some q := let ⟨q, _, _, hq, _⟩ := dd'; ⟨q, hq⟩
  exact d_write I2 (by rw [e]; exact True.intro) hs he (dk_new hz hd (rk.merge .nil) dd')


structure M1 (X : Cx) (o : Expr) (m : Str) (apos : Pos) (e : Expr) (cpos : Pos) : Prop where
  base : attributeBase o m X.env (eval o X.env) = eval o X.env
  few : ((backTo cpos (starEach [e] X.env)).all (fun x => !x.1) && (backToKw cpos (keywordEach [] X.env)).all (fun x => x.1.isSome)
    && decide (([e] : List Expr).length + ([] : List Keyword).length + (if ([] : List Keyword).isEmpty then 0 else 1) < 30)) = true
  line : (apos.endLine == cpos.line) = true
  trees : backTo cpos (starEach [e] X.env) = [(false, eval e X.env)]
structure M2 (X : Cx) (o : Expr) (m : Str) (apos : Pos) (e f : Expr) (cpos : Pos) : Prop where
  base : attributeBase o m X.env (eval o X.env) = eval o X.env
  few : ((backTo cpos (starEach [e, f] X.env)).all (fun x => !x.1) && (backToKw cpos (keywordEach [] X.env)).all (fun x => x.1.isSome)
    && decide (([e, f] : List Expr).length + ([] : List Keyword).length + (if ([] : List Keyword).isEmpty then 0 else 1) < 30)) = true
  line : (apos.endLine == cpos.line) = true
  trees : backTo cpos (starEach [e, f] X.env) = [(false, eval e X.env), (false, eval f X.env)]

section
variable {X : Cx} {pins : List (Addr × Obj)} {σ : St} {H : Hp} {s : Shared} {a : Addr} {y d : V} {u r : Value} {o : Option V} {A : Around} {E : Value → Shared → Prop}
end

section
variable {X : Cx} {o e f : Expr} {apos cpos : Pos} {td ty tx : TE}
end

section
variable {X : Cx} {pins : List (Addr × Obj)} {σ : St} {H : Hp} {s : Shared} {a : Addr} {kvs : List (Key × V)} {A : Around} {E : Value → Shared → Prop}
end


section
variable {X : Cx} {pins : List (Addr × Obj)} {σ : St} {H : Hp} {s : Shared} {a : Addr} {y : V} {u : Value} {A : Around} {E : Value → Shared → Prop}
end
end L2

namespace L2
open PySem PySem.Spec PyProof.Rows
section
variable {κ : Type} [DecidableEq κ]
end
end L2


set_option Elab.async false
set_option linter.all false
set_option maxRecDepth 100000
namespace PySem
section
variable {prog : Program} {w : World} {K : Type} [DecidableEq K] {knd : KeyKind prog w K} {A : Around} {E : Value → Shared → Prop} {s : Shared}
end
end PySem


set_option Elab.async false
set_option linter.all false
set_option maxRecDepth 100000
namespace L2
open PySem PySem.Spec PyProof.Rows
section
variable {X : Cx} {o e f : Expr} {td ty tx : TE} {apos cpos p pos : Pos}
end
end L2


set_option linter.all false
namespace KM
section
variable (F F' : Nat → Tx)
def asg : List Nat → List Nat → List (List Nat)
  | [], _ => [[]]
  | c :: L, L' => (L'.filter fun c' => F' c' == F c).flatMap fun c' => (asg L (L'.erase c')).map (c' :: ·)
theorem mem_asg : ∀ (L L' : List Nat), L'.Nodup → ∀ l, l ∈ asg F F' L L' ↔ l.map F' = L.map F ∧ l.Nodup ∧ ∀ c ∈ l, c ∈ L'
  | [], _, _, l => by
    show l ∈ [[]] ↔ _
    rw [List.mem_singleton]
    constructor
    · rintro rfl; exact ⟨rfl, List.nodup_nil, fun c h => nomatch h⟩
    · intro h; exact List.map_eq_nil_iff.mp h.1
  | c :: L, L', nd, l => by
    show l ∈ (L'.filter fun c' => F' c' == F c).flatMap _ ↔ _
    rw [List.mem_flatMap]
    constructor
    · rintro ⟨c', hc', hl⟩
      obtain ⟨h1, h2⟩ := List.mem_filter.mp hc'
      obtain ⟨t, ht, rfl⟩ := List.mem_map.mp hl
      obtain ⟨e, n1, sub⟩ := (mem_asg L _ (nd.erase c') t).mp ht
      refine ⟨by rw [List.map_cons, List.map_cons, e, eq_of_beq h2], List.nodup_cons.mpr ⟨fun z => ?_, n1⟩, fun d hd => ?_⟩
      · exact (List.Nodup.not_mem_erase nd) (sub c' z)
      · rcases List.mem_cons.mp hd with rfl | hd
        · exact h1
        · exact List.mem_of_mem_erase (sub d hd)
    · rintro ⟨e, n1, sub⟩
      match l, e with
      | c' :: t, e =>
        rw [List.map_cons, List.map_cons] at e
        obtain ⟨e1, e2⟩ := List.cons.inj e
        obtain ⟨m1, m2⟩ := List.nodup_cons.mp n1
        refine ⟨c', List.mem_filter.mpr ⟨sub c' List.mem_cons_self, by rw [e1]; exact beq_self_eq_true _⟩, List.mem_map.mpr ⟨t, ?_, rfl⟩⟩
        refine (mem_asg L _ (nd.erase c') t).mpr ⟨e2, m2, fun d hd => ?_⟩
        refine (List.mem_erase_of_ne ?_).mpr (sub d (List.mem_cons_of_mem _ hd))
        intro z
        exact m1 (z ▸ hd)
theorem nodup_map {α β : Type} {l : List α} {f : α → β} (nd : l.Nodup) (h : ∀ a ∈ l, ∀ b ∈ l, f a = f b → a = b) : (l.map f).Nodup := by
  rw [List.nodup_iff_pairwise_ne] at nd ⊢
  refine List.pairwise_map.mpr (nd.imp_of_mem ?_)
  intro a b ha hb hne e
  exact hne (h a ha b hb e)
end
theorem nodup_full {l : List Nat} {n : Nat} (nd : l.Nodup) (h : ∀ c ∈ l, c < n) (hl : l.length = n) : l.Perm (List.range n) := by
  refine (List.perm_ext_iff_of_nodup nd List.nodup_range).mpr fun c => ⟨fun hc => List.mem_range.mpr (h c hc), fun hc => ?_⟩
  refine Classical.byContradiction fun hn => ?_
  have nd2 : (c :: l).Nodup := List.nodup_cons.mpr ⟨hn, nd⟩
  have h2 := nd2.length_le_of_subset (l₂ := List.range n) fun j hj => by
    rcases List.mem_cons.mp hj with e | e
    · rw [e]; exact hc
    · exact List.mem_range.mpr (h j e)
  rw [List.length_range, List.length_cons] at h2
  omega
section
variable {ab ab' : Ab} {r r' : Nat} {rk rk' : Nat → Nat}
structure IsoTo (ab ab' : Ab) (r' : Nat) (o im : List Nat) (pl : Nat) : Prop where
  forms : im.map (fm ab') = o.map (fm ab)
  nd : im.Nodup
  lt : ∀ c ∈ im, c < ab'.length
  up : ∀ (j c c' : Nat), 0 < j → o[j]? = some c → im[j]? = some c' → ∃ (i k k' : Nat), i < pl ∧ o[i]? = some k ∧ im[i]? = some k' ∧ c ∈ kids ab k ∧ c' ∈ kids ab' k'
  head : ∃ t, im = r' :: t
theorem IsoTo.len {o im : List Nat} {pl : Nat} (X : IsoTo ab ab' r' o im pl) : im.length = o.length := by
  have := congrArg List.length X.forms
  rwa [List.length_map, List.length_map] at this
theorem IsoTo.step (T' : Tree ab' r' rk') {o im l : List Nat} {pl k k' : Nat} (X : IsoTo ab ab' r' o im pl) (hk : o[pl]? = some k) (hk' : im[pl]? = some k') (hl : l ∈ asg (fm ab) (fm ab') (kids ab k) (kids ab' k')) : IsoTo ab ab' r' (o ++ kids ab k) (im ++ l) (pl + 1) := by
  obtain ⟨e1, n1, sub⟩ := (mem_asg _ _ _ _ (kids_nodup ab' k') l).mp hl
  have hpl := (List.getElem?_eq_some_iff.mp hk).1
  have hlen := X.len
  refine ⟨by rw [List.map_append, List.map_append, X.forms, e1], ?_, ?_, ?_, ?_⟩
  · rw [List.nodup_append]
    refine ⟨X.nd, n1, fun c hc d hd e => ?_⟩
    subst e
    have hp := mem_kids.mp (sub c hd)
    obtain ⟨j, hj⟩ := List.mem_iff_getElem?.mp hc
    by_cases hj0 : 0 < j
    · have hjl := (List.getElem?_eq_some_iff.mp hj).1
      obtain ⟨i, a, a', hi, h1, h2, h3, h4⟩ := X.up j _ c hj0 (List.getElem?_eq_getElem (show j < o.length by omega)) hj
      have hp2 := mem_kids.mp h4
      rw [hp] at hp2
      have ea : k' = a' := Option.some.inj (Option.some.inj hp2)
      subst ea
      obtain ⟨q1, e2⟩ := List.getElem?_eq_some_iff.mp h2
      obtain ⟨q2, e3⟩ := List.getElem?_eq_some_iff.mp hk'
      have := (List.getElem_inj X.nd).mp (e2.trans e3.symm)
      omega
    · have : j = 0 := by omega
      subst this
      obtain ⟨t, et⟩ := X.head
      rw [et] at hj
      have : r' = c := Option.some.inj hj
      subst this
      rw [T'.root] at hp
      cases hp
  · intro c hc
    rcases List.mem_append.mp hc with h | h
    · exact X.lt c h
    · exact kids_lt (sub c h)
  · intro j c c' hj h h'
    by_cases hjl : j < o.length
    · rw [List.getElem?_append_left hjl] at h
      rw [List.getElem?_append_left (by omega)] at h'
      obtain ⟨i, a, a', hi, h1, h2, h3, h4⟩ := X.up j c c' hj h h'
      exact ⟨i, a, a', by omega, by rw [List.getElem?_append_left (List.getElem?_eq_some_iff.mp h1).1]; exact h1, by rw [List.getElem?_append_left (List.getElem?_eq_some_iff.mp h2).1]; exact h2, h3, h4⟩
    · rw [List.getElem?_append_right (by omega)] at h h'
      exact ⟨pl, k, k', by omega, by rw [List.getElem?_append_left hpl]; exact hk, by rw [List.getElem?_append_left (by omega)]; exact hk', List.mem_of_getElem? h, sub c' (List.mem_of_getElem? h')⟩
  · obtain ⟨t, et⟩ := X.head
    exact ⟨t ++ l, by rw [et]; rfl⟩
end
end KM


set_option linter.all false
namespace KM
abbrev Ln := List (Nat × Nat)
def nrm (p : Nat × Nat) : Nat × Nat := if p.1 ≤ p.2 then p else (p.2, p.1)
def nb (k : Nat) (p : Nat × Nat) : List Nat := (if p.1 = k then [p.2] else []) ++ (if p.2 = k then [p.1] else [])
def near (ls : Ln) (k : Nat) : List Nat := ls.flatMap (nb k)
def par (ab : Ab) (k : Nat) : List Nat := match ab[k]? with
  | some (some p) => [p]
  | _ => []
def ed1 (ab : Ab) (k : Nat) : Option (Nat × Nat) := (ab[k]?.getD none).map fun p => (k, p)
def eds (ab : Ab) : Ln := (List.range ab.length).filterMap (ed1 ab)
def FreeOf (ab : Ab) (ls : Ln) : Prop := (ls.map nrm).Perm ((eds ab).map nrm)
theorem nrm_flip (a b : Nat) : nrm (b, a) = nrm (a, b) := by
  unfold nrm
  by_cases h : a ≤ b
  · by_cases h2 : b ≤ a
    · have : a = b := by omega
      subst this; rfl
    · rw [if_neg (show ¬ (b, a).1 ≤ (b, a).2 from h2), if_pos (show (a, b).1 ≤ (a, b).2 from h)]
  · rw [if_pos (show (b, a).1 ≤ (b, a).2 by show b ≤ a; omega), if_neg (show ¬ (a, b).1 ≤ (a, b).2 from h)]
theorem nrm_cases (p : Nat × Nat) : nrm p = p ∨ nrm p = (p.2, p.1) := by
  unfold nrm
  split
  · exact .inl rfl
  · exact .inr rfl
theorem nrm_eq {p q : Nat × Nat} (h : nrm p = nrm q) : q = p ∨ q = (p.2, p.1) := by
  obtain ⟨a, b⟩ := p
  obtain ⟨c, d⟩ := q
  rcases nrm_cases (a, b) with e | e <;> rcases nrm_cases (c, d) with e' | e' <;> rw [e, e'] at h
  · exact .inl h.symm
  · right
    have h1 := congrArg Prod.fst h
    have h2 := congrArg Prod.snd h
    dsimp only at h1 h2
    rw [h1, h2]
  · right
    exact h.symm
  · left
    have h1 := congrArg Prod.fst h
    have h2 := congrArg Prod.snd h
    dsimp only at h1 h2
    rw [h1, h2]
theorem nb_flip (k a b : Nat) : (nb k (b, a)).Perm (nb k (a, b)) := List.perm_append_comm
theorem nb_nrm (k : Nat) (p : Nat × Nat) : (nb k (nrm p)).Perm (nb k p) := by
  rcases nrm_cases p with e | e <;> rw [e]
  exact nb_flip k p.1 p.2
theorem flatMap_congr_perm {α β : Type} {f g : α → List β} : ∀ {l : List α}, (∀ a ∈ l, (f a).Perm (g a)) → (l.flatMap f).Perm (l.flatMap g)
  | [], _ => .refl _
  | a :: l, h => by
    rw [List.flatMap_cons, List.flatMap_cons]
    exact (h a List.mem_cons_self).append (flatMap_congr_perm fun b hb => h b (List.mem_cons_of_mem _ hb))
theorem flatMap_perm {α β : Type} (f : α → List β) {l l' : List α} (h : l.Perm l') : (l.flatMap f).Perm (l'.flatMap f) := by
  induction h with
  | nil => exact .refl _
  | cons x _ ih => rw [List.flatMap_cons, List.flatMap_cons]; exact ih.append_left _
  | swap x y t =>
    rw [List.flatMap_cons, List.flatMap_cons, List.flatMap_cons, List.flatMap_cons, ← List.append_assoc, ← List.append_assoc]
    exact List.perm_append_comm.append_right _
  | trans _ _ i1 i2 => exact i1.trans i2
theorem flatMap_append_perm {α β : Type} (f g : α → List β) : ∀ l : List α, (l.flatMap fun a => f a ++ g a).Perm (l.flatMap f ++ l.flatMap g)
  | [] => .refl _
  | a :: l => by
    rw [List.flatMap_cons, List.flatMap_cons, List.flatMap_cons]
    have ih := flatMap_append_perm f g l
    refine ((ih.append_left _)).trans ?_
    rw [List.append_assoc, List.append_assoc]
    refine List.Perm.append_left _ ?_
    rw [← List.append_assoc, ← List.append_assoc]
    exact List.perm_append_comm.append_right _
theorem near_nrm (ls : Ln) (k : Nat) : (near (ls.map nrm) k).Perm (near ls k) := by
  unfold near
  rw [List.flatMap_map]
  exact flatMap_congr_perm fun p _ => nb_nrm k p
theorem near_perm {ls ls' : Ln} (h : (ls.map nrm).Perm (ls'.map nrm)) (k : Nat) : (near ls k).Perm (near ls' k) :=
  ((near_nrm ls k).symm.trans (flatMap_perm _ h)).trans (near_nrm ls' k)
theorem mem_near {ls : Ln} {k c : Nat} : c ∈ near ls k ↔ (k, c) ∈ ls ∨ (c, k) ∈ ls := by
  unfold near
  rw [List.mem_flatMap]
  constructor
  · rintro ⟨⟨a, b⟩, hp, h⟩
    unfold nb at h
    rcases List.mem_append.mp h with h | h
    · split at h
      · rename_i e
        have e' : a = k := e
        have h' : c = b := List.mem_singleton.mp (by assumption)
        rw [← e', h']
        exact .inl hp
      · cases h
    · split at h
      · rename_i e
        have e' : b = k := e
        have h' : c = a := List.mem_singleton.mp (by assumption)
        rw [← e', h']
        exact .inr hp
      · cases h
  · rintro (h | h)
    · exact ⟨_, h, List.mem_append.mpr (.inl (by show c ∈ (if k = k then [c] else []); rw [if_pos rfl]; exact List.mem_singleton.mpr rfl))⟩
    · exact ⟨_, h, List.mem_append.mpr (.inr (by show c ∈ (if k = k then [c] else []); rw [if_pos rfl]; exact List.mem_singleton.mpr rfl))⟩
theorem near_symm {ls : Ln} {k c : Nat} (h : c ∈ near ls k) : k ∈ near ls c := mem_near.mpr ((mem_near.mp h).symm)
def oL {β γ : Type} (g : β → List γ) : Option β → List γ
  | some b => g b
  | none => []
theorem flatMap_filterMap' {α β γ : Type} (f : α → Option β) (g : β → List γ) : ∀ l : List α, (l.filterMap f).flatMap g = l.flatMap fun a => oL g (f a)
  | [] => rfl
  | a :: l => by
    rw [List.flatMap_cons, List.filterMap_cons]
    cases f a with
    | none => show _ = [] ++ _; rw [List.nil_append]; exact flatMap_filterMap' f g l
    | some b => show (b :: _).flatMap g = g b ++ _; rw [List.flatMap_cons, flatMap_filterMap' f g l]
theorem flatMap_one {k n : Nat} (hk : k < n) (x : List Nat) : ((List.range n).flatMap fun j => if j = k then x else []) = x := by
  induction n with
  | zero => omega
  | succ n ih =>
    rw [List.range_succ, List.flatMap_append]
    by_cases e : k = n
    · subst e
      have z : ((List.range k).flatMap fun j => if j = k then x else []) = [] := by
        rw [List.flatMap_eq_nil_iff]
        intro j hj
        rw [if_neg (by have := List.mem_range.mp hj; omega)]
      rw [z]
      simp
    · rw [ih (by omega)]
      have : ([n].flatMap fun j => if j = k then x else []) = [] := by
        show (if n = k then x else []) ++ [] = []
        rw [if_neg (Ne.symm e)]
        rfl
      rw [this, List.append_nil]
theorem flatMap_if {p : Nat → Bool} : ∀ l : List Nat, (l.flatMap fun j => if p j then [j] else []) = l.filter p
  | [] => rfl
  | a :: l => by
    rw [List.flatMap_cons, flatMap_if l]
    by_cases h : p a = true
    · rw [if_pos h, List.filter_cons_of_pos h]; rfl
    · rw [if_neg h, List.filter_cons_of_neg h]; rfl
section
variable {ab : Ab} {r : Nat} {rk : Nat → Nat}
theorem near_eds {k : Nat} (hk : k < ab.length) : (near (eds ab) k).Perm (kids ab k ++ par ab k) := by
  unfold near eds
  rw [flatMap_filterMap']
  have e : (fun j => oL (nb k) (ed1 ab j)) = fun j => (if j = k then par ab k else []) ++ (if ab[j]? == some (some k) then [j] else []) := by
    funext j
    unfold ed1
    cases q : ab[j]?.getD none with
    | none =>
      have h1 : (if j = k then par ab k else []) = [] := by
        split
        · rename_i z
          subst z
          unfold par
          cases q2 : ab[j]? with
          | none => rfl
          | some o => rw [q2] at q; cases o with
            | none => rfl
            | some p => cases q
        · rfl
      have h2 : (ab[j]? == some (some k)) = false := by
        rw [beq_eq_false_iff_ne]
        intro z
        rw [z] at q
        cases q
      rw [h1, h2]
      rfl
    | some p =>
      have hp : ab[j]? = some (some p) := by
        cases q2 : ab[j]? with
        | none => rw [q2] at q; cases q
        | some o => rw [q2] at q; exact congrArg some q
      show (if j = k then [p] else []) ++ (if p = k then [j] else []) = _
      congr 1
      · split
        · rename_i z
          subst z
          unfold par
          rw [hp]
        · rfl
      · rw [hp]
        by_cases z : p = k
        · subst z; rw [if_pos rfl, if_pos (beq_self_eq_true _)]
        · rw [if_neg z, if_neg]
          intro z2
          exact z (Option.some.inj (Option.some.inj (eq_of_beq z2)))
  rw [e]
  refine (flatMap_append_perm _ _ _).trans ?_
  rw [flatMap_one hk, flatMap_if]
  exact List.perm_append_comm
theorem FreeOf.near {ls : Ln} (f : FreeOf ab ls) {k : Nat} (hk : k < ab.length) : (near ls k).Perm (kids ab k ++ par ab k) := (near_perm f k).trans (near_eds hk)
theorem mem_par {k p : Nat} : p ∈ par ab k ↔ ab[k]? = some (some p) := by
  unfold par
  split
  · rename_i q h
    rw [h, List.mem_singleton]
    constructor
    · rintro rfl; rfl
    · intro z; exact (Option.some.inj (Option.some.inj z)).symm
  · rename_i h
    constructor
    · intro z; cases z
    · intro z; exact absurd z (h p)
theorem FreeOf.joined {ls : Ln} (f : FreeOf ab ls) {k : Nat} (hk : k < ab.length) (c : Nat) : c ∈ KM.near ls k ↔ ab[c]? = some (some k) ∨ ab[k]? = some (some c) := by
  rw [(f.near hk).mem_iff, List.mem_append, mem_kids, mem_par]
theorem tree_uniq {ab' : Ab} {rk' : Nat → Nat} {ls : Ln} (T : Tree ab r rk) (T' : Tree ab' r rk') (f : FreeOf ab ls) (f' : FreeOf ab' ls) (hl : ab'.length = ab.length) : ab' = ab := by
  have key : ∀ (d k : Nat), rk k ≤ d → k < ab.length → ab'[k]? = ab[k]? := by
    intro d
    induction d with
    | zero =>
      intro k hd hk
      cases q : ab[k] with
      | none =>
        have := T.only k (by rw [List.getElem?_eq_getElem hk, q])
        subst this
        rw [T.root, T'.root]
      | some p =>
        have := (T.up k p (by rw [List.getElem?_eq_getElem hk, q])).2
        omega
    | succ d ih =>
      intro k hd hk
      cases q : ab[k] with
      | none =>
        have := T.only k (by rw [List.getElem?_eq_getElem hk, q])
        subst this
        rw [T.root, T'.root]
      | some p =>
        have hp : ab[k]? = some (some p) := by rw [List.getElem?_eq_getElem hk, q]
        obtain ⟨h1, h2⟩ := T.up k p hp
        have e := ih p (by omega) h1
        rcases (f'.joined (by omega) p).mp ((f.joined hk p).mpr (.inr hp)) with z | z
        · rw [e] at z
          have := (T.up p k z).2
          omega
        · rw [z, hp]
  refine List.ext_getElem? fun k => ?_
  by_cases hk : k < ab.length
  · exact key _ k (Nat.le_refl _) hk
  · rw [List.getElem?_eq_none (by omega), List.getElem?_eq_none (by omega)]
theorem FreeOf.closed {ls : Ln} (T : Tree ab r rk) (f : FreeOf ab ls) {S : Nat → Prop} {v : Nat} (hv : v < ab.length) (h0 : S v) (hc : ∀ k c, k < ab.length → S k → c ∈ KM.near ls k → S c) : ∀ k, k < ab.length → S k := by
  have hr : S r := by
    have up : ∀ (d k : Nat), rk k ≤ d → k < ab.length → S k → S r := by
      intro d
      induction d with
      | zero =>
        intro k hd hk hs
        cases q : ab[k] with
        | none => rw [← T.only k (by rw [List.getElem?_eq_getElem hk, q])]; exact hs
        | some p => have := (T.up k p (by rw [List.getElem?_eq_getElem hk, q])).2; omega
      | succ d ih =>
        intro k hd hk hs
        cases q : ab[k] with
        | none => rw [← T.only k (by rw [List.getElem?_eq_getElem hk, q])]; exact hs
        | some p =>
          have hp : ab[k]? = some (some p) := by rw [List.getElem?_eq_getElem hk, q]
          obtain ⟨h1, h2⟩ := T.up k p hp
          exact ih p (by omega) h1 (hc k p hk hs ((f.joined hk p).mpr (.inr hp)))
    exact up _ v (Nat.le_refl _) hv h0
  have down : ∀ (d k : Nat), rk k ≤ d → k < ab.length → S k := by
    intro d
    induction d with
    | zero =>
      intro k hd hk
      cases q : ab[k] with
      | none => rw [T.only k (by rw [List.getElem?_eq_getElem hk, q])]; exact hr
      | some p => have := (T.up k p (by rw [List.getElem?_eq_getElem hk, q])).2; omega
    | succ d ih =>
      intro k hd hk
      cases q : ab[k] with
      | none => rw [T.only k (by rw [List.getElem?_eq_getElem hk, q])]; exact hr
      | some p =>
        have hp : ab[k]? = some (some p) := by rw [List.getElem?_eq_getElem hk, q]
        obtain ⟨h1, h2⟩ := T.up k p hp
        exact hc p k h1 (ih p (by omega) h1) ((f.joined h1 k).mpr (.inl hp))
  exact fun k hk => down _ k (Nat.le_refl _) hk
end
theorem sub_perm {α : Type} [BEq α] [LawfulBEq α] : ∀ {l l' : List α}, l.Nodup → (∀ x ∈ l, x ∈ l') → l'.length ≤ l.length → l.Perm l'
  | [], l', _, _, h => by
    have : l' = [] := List.eq_nil_of_length_eq_zero (Nat.le_zero.mp h)
    rw [this]
  | x :: t, l', nd, hs, h => by
    obtain ⟨n1, n2⟩ := List.nodup_cons.mp nd
    have hx := hs x List.mem_cons_self
    have p := List.perm_cons_erase hx
    have hlen := p.length_eq
    rw [List.length_cons] at hlen h
    refine List.Perm.trans ((List.perm_cons x).mpr (sub_perm n2 (fun y hy => ?_) (by omega))) p.symm
    exact (List.mem_erase_of_ne (fun z => n1 (by rw [← z]; exact hy))).mpr (hs y (List.mem_cons_of_mem _ hy))
section
variable {ab : Ab} {r : Nat} {rk : Nat → Nat}
theorem eds_fst : (eds ab).map Prod.fst = (List.range ab.length).filter fun k => (ab[k]?.getD none).isSome := by
  unfold eds
  generalize List.range ab.length = l
  induction l with
  | nil => rfl
  | cons a l ih =>
    rw [List.filterMap_cons]
    unfold ed1 at ih ⊢
    cases q : ab[a]?.getD none with
    | none => rw [List.filter_cons_of_neg (by rw [q]; simp)]; exact ih
    | some p => rw [List.filter_cons_of_pos (by rw [q]; rfl)]; show a :: _ = _; rw [← ih]
theorem Tree.eds_len (T : Tree ab r rk) : (eds ab).length + 1 = ab.length := by
  have h : (r :: (eds ab).map Prod.fst).Perm (List.range ab.length) := by
    rw [eds_fst]
    refine (List.perm_ext_iff_of_nodup (List.nodup_cons.mpr ⟨fun z => ?_, List.nodup_range.sublist List.filter_sublist⟩) List.nodup_range).mpr fun k => ?_
    · have := (List.mem_filter.mp z).2
      rw [T.root] at this
      cases this
    · rw [List.mem_cons, List.mem_filter, List.mem_range]
      constructor
      · rintro (rfl | h)
        · exact T.rlt
        · exact h.1
      · intro hk
        cases q : ab[k] with
        | none => exact .inl (T.only k (by rw [List.getElem?_eq_getElem hk, q]))
        | some p => exact .inr ⟨hk, by rw [List.getElem?_eq_getElem hk, q]; rfl⟩
  have := h.length_eq
  rw [List.length_cons, List.length_map, List.length_range] at this
  exact this
theorem mem_eds {k p : Nat} : (k, p) ∈ eds ab ↔ ab[k]? = some (some p) := by
  unfold eds
  rw [List.mem_filterMap]
  constructor
  · rintro ⟨j, _, h⟩
    unfold ed1 at h
    cases q : ab[j]?.getD none with
    | none => rw [q] at h; cases h
    | some x =>
      rw [q] at h
      have e := Option.some.inj h
      have e1 : j = k := congrArg Prod.fst e
      have e2 : x = p := congrArg Prod.snd e
      subst e1 e2
      cases q2 : ab[j]? with
      | none => rw [q2] at q; cases q
      | some o => rw [q2] at q; exact congrArg some q
  · intro h
    refine ⟨k, List.mem_range.mpr (List.getElem?_eq_some_iff.mp h).1, ?_⟩
    unfold ed1
    rw [h]
    rfl
theorem Tree.eds_nodup (T : Tree ab r rk) : ((eds ab).map nrm).Nodup := by
  have nd : (eds ab).Nodup := by
    have : ((eds ab).map Prod.fst).Nodup := by rw [eds_fst]; exact List.nodup_range.sublist List.filter_sublist
    rw [List.nodup_iff_pairwise_ne] at this ⊢
    exact (List.pairwise_map.mp this).imp fun h z => h (by rw [z])
  refine nodup_map nd fun a ha b hb e => ?_
  obtain ⟨k, p⟩ := a
  obtain ⟨k', p'⟩ := b
  rcases nrm_eq e with z | z
  · exact z.symm
  · have h1 := (T.up k p (mem_eds.mp ha)).2
    have h2 := (T.up k' p' (mem_eds.mp hb)).2
    have z1 : k' = p := congrArg Prod.fst z
    have z2 : p' = k := congrArg Prod.snd z
    subst z1 z2
    omega
theorem Tree.freeOf (T : Tree ab r rk) {ls : Ln} (hn : ls.length + 1 = ab.length) (h : ∀ k p, ab[k]? = some (some p) → p ∈ near ls k) : FreeOf ab ls := by
  have hl := T.eds_len
  refine (sub_perm T.eds_nodup (fun x hx => ?_) (by rw [List.length_map, List.length_map]; omega)).symm
  obtain ⟨⟨k, p⟩, hkp, rfl⟩ := List.mem_map.mp hx
  rcases mem_near.mp (h k p (mem_eds.mp hkp)) with z | z
  · exact List.mem_map.mpr ⟨_, z, rfl⟩
  · exact List.mem_map.mpr ⟨_, z, nrm_flip k p⟩
theorem FreeOf.len (T : Tree ab r rk) {ls : Ln} (f : FreeOf ab ls) : ls.length + 1 = ab.length := by
  have h1 := T.eds_len
  have h2 := f.length_eq
  rw [List.length_map, List.length_map] at h2
  omega
theorem FreeOf.lt (T : Tree ab r rk) {ls : Ln} (f : FreeOf ab ls) {p : Nat × Nat} (h : p ∈ ls) : p.1 < ab.length ∧ p.2 < ab.length := by
  obtain ⟨⟨k, q⟩, hq, e⟩ := List.mem_map.mp (f.mem_iff.mp (List.mem_map.mpr ⟨p, h, rfl⟩))
  have hk := mem_eds.mp hq
  have h1 := (List.getElem?_eq_some_iff.mp hk).1
  have h2 := (T.up k q hk).1
  rcases nrm_eq e with z | z
  · rw [z]; exact ⟨h1, h2⟩
  · rw [z]; exact ⟨h2, h1⟩
end
end KM


set_option linter.all false
namespace KM
structure GB (ls : Ln) (n v : Nat) (ord : List Nat) (pa : Nat → Option Nat) (pl : Nat) : Prop where
  nd : ord.Nodup
  lt : ∀ k ∈ ord, k < n
  head : ∃ t, ord = v :: t
  pav : pa v = none
  up : ∀ (j c : Nat), 0 < j → ord[j]? = some c → ∃ (i k : Nat), i < j ∧ ord[i]? = some k ∧ pa c = some k ∧ c ∈ near ls k
  le : pl ≤ ord.length
  closed : ∀ (i k : Nat), i < pl → ord[i]? = some k → ∀ c ∈ near ls k, c ∈ ord
section
variable {ls : Ln} {n v : Nat} {ord : List Nat} {pa : Nat → Option Nat} {pl : Nat}
theorem gb0 (hv : v < n) : GB ls n v [v] (fun _ => none) 0 where
  nd := by simp
  lt := by intro k hk; rw [List.mem_singleton] at hk; subst hk; exact hv
  head := ⟨[], rfl⟩
  pav := rfl
  up := by
    intro j c hj h
    rw [List.getElem?_eq_none (show [v].length ≤ j from hj)] at h
    cases h
  le := Nat.zero_le _
  closed := by intro i k h; omega
theorem GB.meet (B : GB ls n v ord pa pl) {k c : Nat} (hk : ord[pl]? = some k) (hc : c ∈ near ls k) (hn : c ∉ ord) (hcl : c < n) : GB ls n v (ord ++ [c]) (fun j => if j = c then some k else pa j) pl where
  nd := by
    rw [List.nodup_append]
    refine ⟨B.nd, by simp, fun a ha b hb e => ?_⟩
    rw [List.mem_singleton] at hb
    subst hb e
    exact hn ha
  lt := by
    intro j hj
    rcases List.mem_append.mp hj with h | h
    · exact B.lt j h
    · rw [List.mem_singleton] at h; subst h; exact hcl
  head := by
    obtain ⟨t, e⟩ := B.head
    exact ⟨t ++ [c], by rw [e]; rfl⟩
  pav := by
    obtain ⟨t, e⟩ := B.head
    show (if v = c then some k else pa v) = none
    rw [if_neg, B.pav]
    intro z
    exact hn (by rw [← z, e]; exact List.mem_cons_self)
  up := by
    intro j d hj h
    by_cases hjl : j < ord.length
    · rw [List.getElem?_append_left hjl] at h
      obtain ⟨i, a, h1, h2, h3, h4⟩ := B.up j d hj h
      refine ⟨i, a, h1, by rw [List.getElem?_append_left (by omega)]; exact h2, ?_, h4⟩
      show (if d = c then some k else pa d) = some a
      rw [if_neg, h3]
      intro z
      exact hn (z ▸ List.mem_of_getElem? h)
    · have hpl := (List.getElem?_eq_some_iff.mp hk).1
      rw [List.getElem?_append_right (by omega)] at h
      have hd : d = c := by
        have := List.mem_of_getElem? h
        exact List.mem_singleton.mp this
      subst hd
      exact ⟨pl, k, by omega, by rw [List.getElem?_append_left hpl]; exact hk, if_pos rfl, hc⟩
  le := by rw [List.length_append]; have := B.le; omega
  closed := by
    intro i a hi h d hd
    have := B.le
    rw [List.getElem?_append_left (by omega)] at h
    exact List.mem_append.mpr (.inl (B.closed i a hi h d hd))
theorem GB.next (B : GB ls n v ord pa pl) {k : Nat} (hk : ord[pl]? = some k) (h : ∀ c ∈ near ls k, c ∈ ord) : GB ls n v ord pa (pl + 1) :=
  ⟨B.nd, B.lt, B.head, B.pav, B.up, (List.getElem?_eq_some_iff.mp hk).1, fun i a hi ha => by
    by_cases e : i < pl
    · exact B.closed i a e ha
    · have : i = pl := by omega
      subst this
      rw [hk] at ha
      cases ha
      exact h⟩
theorem GB.len (B : GB ls n v ord pa pl) : ord.length ≤ n := by
  have h := B.nd.length_le_of_subset (l₂ := List.range n) fun k hk => List.mem_range.mpr (B.lt k hk)
  rw [List.length_range] at h
  exact h
def hung (n : Nat) (pa : Nat → Option Nat) : Ab := (List.range n).map pa
theorem hung_len : (hung n pa).length = n := by unfold hung; rw [List.length_map, List.length_range]
theorem hung_get {k : Nat} (h : k < n) : (hung n pa)[k]? = some (pa k) := by unfold hung; rw [List.getElem?_map, List.getElem?_range h]; rfl
theorem GB.tree (B : GB ls n v ord pa pl) (hw : ord.length = n) : Tree (hung n pa) v (fun k => ord.idxOf k) ∧ ∀ (k p : Nat), (hung n pa)[k]? = some (some p) → p ∈ near ls k := by
  have pm := nodup_full B.nd B.lt hw
  have hmem : ∀ k, k < n → k ∈ ord := fun k hk => pm.mem_iff.mpr (List.mem_range.mpr hk)
  have hv : v < n := by
    obtain ⟨t, e⟩ := B.head
    exact B.lt v (by rw [e]; exact List.mem_cons_self)
  have key : ∀ (k : Nat), k < n → (k = v ∧ pa k = none) ∨ ∃ (i j p : Nat), i < j ∧ ord[j]? = some k ∧ ord[i]? = some p ∧ pa k = some p ∧ k ∈ near ls p := by
    intro k hk
    obtain ⟨j, hj⟩ := List.mem_iff_getElem?.mp (hmem k hk)
    by_cases h0 : 0 < j
    · obtain ⟨i, p, h1, h2, h3, h4⟩ := B.up j k h0 hj
      exact .inr ⟨i, j, p, h1, hj, h2, h3, h4⟩
    · have : j = 0 := by omega
      subst this
      obtain ⟨t, e⟩ := B.head
      rw [e] at hj
      have : v = k := Option.some.inj hj
      subst this
      exact .inl ⟨rfl, B.pav⟩
  have get : ∀ (k : Nat) (o : Option Nat), (hung n pa)[k]? = some o → k < n ∧ pa k = o := by
    intro k o h
    have hk : k < n := by have := (List.getElem?_eq_some_iff.mp h).1; rwa [hung_len] at this
    rw [hung_get hk] at h
    exact ⟨hk, Option.some.inj h⟩
  refine ⟨⟨by rw [hung_get hv, B.pav], fun k h => ?_, fun k p h => ?_, fun k h => ?_⟩, fun k p h => ?_⟩
  · obtain ⟨hk, e⟩ := get k _ h
    rcases key k hk with z | ⟨_, _, p, _, _, _, z, _⟩
    · exact z.1
    · rw [e] at z; cases z
  · obtain ⟨hk, e⟩ := get k _ h
    rcases key k hk with z | ⟨i, j, q, h1, h2, h3, z, _⟩
    · rw [e] at z; cases z.2
    · rw [e] at z
      cases z
      rw [hung_len]
      refine ⟨B.lt p (List.mem_of_getElem? h3), ?_⟩
      show ord.idxOf p < ord.idxOf k
      rw [idx_of B.nd h2, idx_of B.nd h3]
      exact h1
  · rw [hung_len] at h ⊢
    have := List.idxOf_lt_length_of_mem (hmem k h)
    show ord.idxOf k < n
    omega
  · obtain ⟨hk, e⟩ := get k _ h
    rcases key k hk with z | ⟨_, _, q, _, _, _, z, h4⟩
    · rw [e] at z; cases z.2
    · rw [e] at z
      cases z
      exact near_symm h4
theorem GB.free (B : GB ls n v ord pa pl) (hw : ord.length = n) (hn : ls.length + 1 = n) : FreeOf (hung n pa) ls :=
  (B.tree hw).1.freeOf (by rw [hung_len]; exact hn) (B.tree hw).2
theorem GB.whole {ab : Ab} {r : Nat} {rk : Nat → Nat} (T : Tree ab r rk) (f : FreeOf ab ls) (B : GB ls ab.length v ord pa ord.length) : ord.length = ab.length := by
  have hv : v < ab.length := by
    obtain ⟨t, e⟩ := B.head
    exact B.lt v (by rw [e]; exact List.mem_cons_self)
  have all := f.closed T (S := fun k => k ∈ ord) hv (by obtain ⟨t, e⟩ := B.head; rw [e]; exact List.mem_cons_self) fun k c hk hs hc => by
    obtain ⟨i, hi⟩ := List.mem_iff_getElem?.mp hs
    exact B.closed i k (List.getElem?_eq_some_iff.mp hi).1 hi c hc
  have h1 := B.len
  have h2 := List.nodup_range.length_le_of_subset (l₁ := List.range ab.length) (l₂ := ord) fun j hj => all j (List.mem_range.mp hj)
  rw [List.length_range] at h2
  omega
end
def IsFree (n : Nat) (ls : Ln) : Prop := ∃ (ab : Ab) (r : Nat) (rk : Nat → Nat), Tree ab r rk ∧ ab.length = n ∧ FreeOf ab ls
def RootedAt (n : Nat) (ls : Ln) (v : Nat) (ab : Ab) : Prop := ab.length = n ∧ (∃ rk, Tree ab v rk) ∧ FreeOf ab ls
theorem RootedAt.uniq {n v : Nat} {ls : Ln} {ab ab' : Ab} (h : RootedAt n ls v ab) (h' : RootedAt n ls v ab') : ab' = ab := by
  obtain ⟨l, ⟨rk, T⟩, f⟩ := h
  obtain ⟨l', ⟨rk', T'⟩, f'⟩ := h'
  exact tree_uniq T T' f f' (by omega)
theorem GB.rooted {ls : Ln} {n v : Nat} {ord : List Nat} {pa : Nat → Option Nat} {pl : Nat} (B : GB ls n v ord pa pl) (hw : ord.length = n) (hn : ls.length + 1 = n) : RootedAt n ls v (hung n pa) :=
  ⟨hung_len, ⟨_, (B.tree hw).1⟩, B.free hw hn⟩
theorem near_lt {ls : Ln} {n k c : Nat} (hlt : ∀ p ∈ ls, p.1 < n ∧ p.2 < n) (h : c ∈ near ls k) : c < n := by
  rcases mem_near.mp h with z | z
  · exact (hlt _ z).2
  · exact (hlt _ z).1
theorem gb_ex {ls : Ln} {n v : Nat} (hv : v < n) (hlt : ∀ p ∈ ls, p.1 < n ∧ p.2 < n) : ∃ ord pa, GB ls n v ord pa ord.length := by
  have inner : ∀ (l : List Nat) (k : Nat) {ord : List Nat} {pa : Nat → Option Nat} {pl : Nat}, GB ls n v ord pa pl → ord[pl]? = some k → (∀ c ∈ l, c ∈ near ls k) →
      ∃ ord' pa', GB ls n v ord' pa' pl ∧ ord'[pl]? = some k ∧ (∀ c ∈ ord, c ∈ ord') ∧ ∀ c ∈ l, c ∈ ord' := by
    intro l
    induction l with
    | nil => intro k ord pa pl B hk _; exact ⟨ord, pa, B, hk, fun c h => h, fun c h => nomatch h⟩
    | cons c l ih =>
      intro k ord pa pl B hk hl
      by_cases hc : c ∈ ord
      · obtain ⟨o, p, B', hk', h1, h2⟩ := ih k B hk fun d hd => hl d (List.mem_cons_of_mem _ hd)
        refine ⟨o, p, B', hk', h1, fun d hd => ?_⟩
        rcases List.mem_cons.mp hd with rfl | hd
        · exact h1 _ hc
        · exact h2 d hd
      · have B1 := B.meet hk (hl c List.mem_cons_self) hc (near_lt hlt (hl c List.mem_cons_self))
        obtain ⟨o, p, B', hk', h1, h2⟩ := ih k B1 (by rw [List.getElem?_append_left (List.getElem?_eq_some_iff.mp hk).1]; exact hk) fun d hd => hl d (List.mem_cons_of_mem _ hd)
        refine ⟨o, p, B', hk', fun d hd => h1 d (List.mem_append.mpr (.inl hd)), fun d hd => ?_⟩
        rcases List.mem_cons.mp hd with rfl | hd
        · exact h1 _ (List.mem_append.mpr (.inr (List.mem_singleton.mpr rfl)))
        · exact h2 d hd
  have outer : ∀ (d : Nat) {ord : List Nat} {pa : Nat → Option Nat} {pl : Nat}, GB ls n v ord pa pl → n - pl ≤ d → ∃ ord pa, GB ls n v ord pa ord.length := by
    intro d
    induction d with
    | zero =>
      intro ord pa pl B h
      have h1 := B.len
      have h2 := B.le
      have : pl = ord.length := by omega
      subst this
      exact ⟨ord, pa, B⟩
    | succ d ih =>
      intro ord pa pl B h
      by_cases e : pl = ord.length
      · subst e; exact ⟨ord, pa, B⟩
      · have h2 := B.le
        have hl : pl < ord.length := by omega
        obtain ⟨o, p, B', hk', _, h3⟩ := inner (near ls ord[pl]) ord[pl] B (List.getElem?_eq_getElem hl) fun c h => h
        exact ih (B'.next hk' h3) (by omega)
  exact outer _ (gb0 hv) (Nat.le_refl _)
theorem rooted_ex {n : Nat} {ls : Ln} (h : IsFree n ls) {v : Nat} (hv : v < n) : ∃ ab, RootedAt n ls v ab := by
  obtain ⟨ab, r, rk, T, rfl, f⟩ := h
  obtain ⟨ord, pa, B⟩ := gb_ex hv (fun p hp => f.lt T hp)
  exact ⟨_, B.rooted (B.whole T f) (f.len T)⟩
theorem isFree_of {n : Nat} {ls : Ln} {v : Nat} {ab : Ab} (h : RootedAt n ls v ab) : IsFree n ls := by
  obtain ⟨l, ⟨rk, T⟩, f⟩ := h
  exact ⟨ab, v, rk, T, l, f⟩
inductive Dep (ab : Ab) : Nat → Nat → Prop
  | root {k : Nat} : ab[k]? = some none → Dep ab k 0
  | up {k p d : Nat} : ab[k]? = some (some p) → Dep ab p d → Dep ab k (d + 1)
theorem Dep.det {ab : Ab} {k d d' : Nat} (h : Dep ab k d) (h' : Dep ab k d') : d = d' := by
  induction h generalizing d' with
  | root e =>
    cases h' with
    | root => rfl
    | up e' => rw [e] at e'; cases e'
  | up e _ ih =>
    cases h' with
    | root e' => rw [e] at e'; cases e'
    | up e' h' =>
      rw [e] at e'
      cases e'
      rw [ih h']
theorem Tree.dep {ab : Ab} {r : Nat} {rk : Nat → Nat} (T : Tree ab r rk) : ∀ (b k : Nat), rk k ≤ b → k < ab.length → ∃ d, Dep ab k d ∧ d ≤ rk k
  | b, k, hb, hk => by
    cases q : ab[k] with
    | none => exact ⟨0, .root (by rw [List.getElem?_eq_getElem hk, q]), Nat.zero_le _⟩
    | some p =>
      have hp : ab[k]? = some (some p) := by rw [List.getElem?_eq_getElem hk, q]
      obtain ⟨h1, h2⟩ := T.up k p hp
      match b, hb with
      | 0, hb => omega
      | b + 1, hb =>
        obtain ⟨d, hd, hle⟩ := T.dep b p (by omega) h1
        exact ⟨d + 1, .up hp hd, by omega⟩
end KM


set_option linter.all false
namespace KM
section
variable {A B : Ab} {u v : Nat} {rk rk' : Nat → Nat} {ls : Ln}
inductive UpN (A : Ab) (x : Nat) : Nat → Nat → Prop
  | zero : UpN A x x 0
  | succ {a p i : Nat} : UpN A x a i → A[a]? = some (some p) → UpN A x p (i + 1)
theorem UpN.front {x y a i : Nat} (h : UpN A y a i) (e : A[x]? = some (some y)) : UpN A x a (i + 1) := by
  induction h with
  | zero => exact UpN.zero.succ e
  | succ _ e2 ih => exact ih.succ e2
theorem Dep.upN (T : Tree A u rk) {x d : Nat} (h : Dep A x d) : UpN A x u d := by
  induction h with
  | root e =>
    have := T.only _ e
    subst this
    exact .zero
  | up e _ ih => exact ih.front e
theorem UpN.low (T : Tree A u rk) {x a i : Nat} (h : UpN A x a i) : rk a + i ≤ rk x := by
  induction h with
  | zero => exact Nat.le_refl _
  | succ _ e ih => have := (T.up _ _ e).2; omega
theorem UpN.turn (T : Tree A u rk) (T' : Tree B v rk') (f : FreeOf A ls) (f' : FreeOf B ls) (hl : B.length = A.length) {w d : Nat} (hw : Dep B w d) (h0 : ∀ p, A[w]? = some (some p) → B[p]? = some (some w)) {a i : Nat} (h : UpN A w a i) :
    Dep B a (d + i) ∧ ∀ p, A[a]? = some (some p) → B[p]? = some (some a) := by
  induction h with
  | zero => exact ⟨hw, h0⟩
  | @succ a p i _ e ih =>
    obtain ⟨h1, h2⟩ := ih
    have hp := h2 p e
    refine ⟨.up hp h1, fun q hq => ?_⟩
    have hpl := (T.up a p e).1
    have r1 := (T.up a p e).2
    have r2 := (T.up p q hq).2
    rcases (f'.joined (show p < B.length by omega) q).mp ((f.joined hpl q).mpr (.inr hq)) with z | z
    · exact z
    · rw [hp] at z
      have : a = q := Option.some.inj (Option.some.inj z)
      subst this
      omega
theorem dep_symm (T : Tree A u rk) (T' : Tree B v rk') (f : FreeOf A ls) (f' : FreeOf B ls) (hl : B.length = A.length) {d : Nat} (h : Dep A v d) : Dep B u d := by
  have := (UpN.turn T T' f f' hl (.root T'.root) (fun p hp => ?_) (h.upN T)).1
  · rwa [Nat.zero_add] at this
  · have hv : v < A.length := (List.getElem?_eq_some_iff.mp hp).1
    rcases (f'.joined (show v < B.length by omega) p).mp ((f.joined hv p).mpr (.inr hp)) with z | z
    · exact z
    · rw [T'.root] at z; cases z
end
structure Ecc (n : Nat) (ls : Ln) (v e : Nat) : Prop where
  most : ∀ (ab : Ab) (k d : Nat), RootedAt n ls v ab → k < n → Dep ab k d → d ≤ e
  there : ∀ (ab : Ab), RootedAt n ls v ab → ∃ k, k < n ∧ Dep ab k e
theorem Ecc.det {n : Nat} {ls : Ln} (F : IsFree n ls) {v e e' : Nat} (hv : v < n) (h : Ecc n ls v e) (h' : Ecc n ls v e') : e = e' := by
  obtain ⟨ab, R⟩ := rooted_ex F hv
  obtain ⟨k, hk, hd⟩ := h.there ab R
  obtain ⟨k', hk', hd'⟩ := h'.there ab R
  have h1 := h'.most ab k e R hk hd
  have h2 := h.most ab k' e' R hk' hd'
  omega
theorem middles_joined {n : Nat} {ls : Ln} (F : IsFree n ls) {u v e : Nat} (hu : u < n) (hv : v < n) (hne : u ≠ v) (eu : Ecc n ls u e) (ev : Ecc n ls v e) (hmin : ∀ w e', w < n → Ecc n ls w e' → e ≤ e') : v ∈ near ls u := by
  obtain ⟨A, RA⟩ := rooted_ex F hu
  obtain ⟨lA, ⟨rk, T⟩, fA⟩ := id RA
  refine Classical.byContradiction fun hn => ?_
  have hvA : v < A.length := by omega
  cases q : A[v] with
  | none => exact hne (T.only v (by rw [List.getElem?_eq_getElem hvA, q])).symm
  | some w =>
    have hw : A[v]? = some (some w) := by rw [List.getElem?_eq_getElem hvA, q]
    obtain ⟨hwl, hwr⟩ := T.up v w hw
    have hwu : w ≠ u := fun z => hn (by rw [← z]; exact (fA.joined hwl v).mpr (.inl hw))
    cases q2 : A[w] with
    | none => exact hwu (T.only w (by rw [List.getElem?_eq_getElem hwl, q2]))
    | some q2' =>
      have hq : A[w]? = some (some q2') := by rw [List.getElem?_eq_getElem hwl, q2]
      obtain ⟨hql, hqr⟩ := T.up w q2' hq
      -- the farness of w is less
      obtain ⟨C, RC⟩ := rooted_ex F (show w < n by omega)
      obtain ⟨lC, ⟨rkC, TC⟩, fC⟩ := id RC
      have less : ∀ x d, x < n → Dep C x d → d + 1 ≤ e := by
        intro x d hx hd
        obtain ⟨B, RB⟩ := rooted_ex F hx
        obtain ⟨lB, ⟨rkB, TB⟩, fB⟩ := id RB
        have hdB : Dep B w d := dep_symm TC TB fC fB (by omega) hd
        have toE : ∀ {y dy : Nat}, y < n → Ecc n ls y e → Dep B y dy → dy ≤ e := by
          intro y dy hy ey hdy
          obtain ⟨Y, RY⟩ := rooted_ex F hy
          obtain ⟨lY, ⟨rkY, TY⟩, fY⟩ := id RY
          exact ey.most Y x dy RY hx (dep_symm TB TY fB fY (by omega) hdy)
        rcases (fB.joined (show v < B.length by omega) w).mp ((fA.joined hvA w).mpr (.inr hw)) with z | z
        · -- B[w] = v: from w upward in A is downward in B
          have h0 : ∀ p, A[w]? = some (some p) → B[p]? = some (some w) := by
            intro p hp
            rw [hq] at hp
            have : q2' = p := Option.some.inj (Option.some.inj hp)
            subst this
            rcases (fB.joined (show w < B.length by omega) q2').mp ((fA.joined hwl q2').mpr (.inr hq)) with y | y
            · exact y
            · rw [z] at y
              have : v = q2' := Option.some.inj (Option.some.inj y)
              subst this
              omega
          obtain ⟨j, hj, _⟩ := T.dep _ w (Nat.le_refl _) hwl
          have hun := hj.upN T
          have hjp : 0 < j := by
            cases hun with
            | zero => exact absurd rfl hwu
            | succ => omega
          have := (UpN.turn T TB fA fB (by omega) hdB h0 hun).1
          have := toE hu eu this
          omega
        · -- B[v] = w
          have := toE hv ev (.up z hdB)
          exact this
      -- then w would be nearer
      obtain ⟨x0, hx0, hmx⟩ : ∃ x d, x < n ∧ Dep C x d ∧ ∀ x' d', x' < n → Dep C x' d' → d' ≤ d := by
        have aux : ∀ (m : Nat), m ≤ n → 0 < m → ∃ x d, x < n ∧ Dep C x d ∧ ∀ x' d', x' < m → Dep C x' d' → d' ≤ d := by
          intro m
          induction m with
          | zero => intro _ h; omega
          | succ m ih =>
            intro hm _
            obtain ⟨dm, hdm, _⟩ := TC.dep _ m (Nat.le_refl _) (by omega)
            by_cases h0 : 0 < m
            · obtain ⟨x, d, hx, hd, hall⟩ := ih (by omega) h0
              by_cases hle : dm ≤ d
              · refine ⟨x, d, hx, hd, fun x' d' hx' hd' => ?_⟩
                by_cases e' : x' = m
                · subst e'
                  rw [hd'.det hdm]; exact hle
                · exact hall x' d' (by omega) hd'
              · refine ⟨m, dm, by omega, hdm, fun x' d' hx' hd' => ?_⟩
                by_cases e' : x' = m
                · subst e'
                  rw [hd'.det hdm]; exact Nat.le_refl _
                · have := hall x' d' (by omega) hd'; omega
            · have : m = 0 := by omega
              subst this
              exact ⟨0, dm, by omega, hdm, fun x' d' hx' hd' => by
                have : x' = 0 := by omega
                subst this
                rw [hd'.det hdm]; exact Nat.le_refl _⟩
        exact aux n (Nat.le_refl _) (by omega)
      obtain ⟨hx, hd, hall⟩ := hmx
      have ew : Ecc n ls w hx0 := by
        refine ⟨fun ab k d R hk h => ?_, fun ab R => ?_⟩
        · rw [RC.uniq R] at h
          exact hall k d hk h
        · rw [RC.uniq R]
          exact ⟨x0, hx, hd⟩
      have := hmin w hx0 (by omega) ew
      have := less x0 hx0 hx hd
      omega
end KM


set_option linter.all false
namespace KM
section
variable {A B : Ab} {u v : Nat} {rk rk' : Nat → Nat} {ls : Ln}
end
noncomputable def At (n : Nat) (ls : Ln) (v : Nat) : Ab := Classical.epsilon fun ab => RootedAt n ls v ab
theorem at_spec {n : Nat} {ls : Ln} (F : IsFree n ls) {v : Nat} (hv : v < n) : RootedAt n ls v (At n ls v) := Classical.epsilon_spec (rooted_ex F hv)
theorem at_eq {n : Nat} {ls : Ln} {v : Nat} {ab : Ab} (F : IsFree n ls) (hv : v < n) (h : RootedAt n ls v ab) : At n ls v = ab := h.uniq (at_spec F hv)
noncomputable def br (n : Nat) (ls : Ln) (b k : Nat) : Tx := fm (At n ls b) k
noncomputable def rf (n : Nat) (ls : Ln) (v : Nat) : Tx := fm (At n ls v) v
section
variable {n : Nat} {ls : Ln}
theorem IsFree.lt (F : IsFree n ls) {p : Nat × Nat} (h : p ∈ ls) : p.1 < n ∧ p.2 < n := by
  obtain ⟨ab, r, rk, T, rfl, f⟩ := F
  exact f.lt T h
theorem IsFree.near_lt (F : IsFree n ls) {k c : Nat} (h : c ∈ near ls k) : c < n ∧ k < n := ⟨KM.near_lt (fun p hp => F.lt hp) h, KM.near_lt (fun p hp => F.lt hp) (near_symm h)⟩
theorem RootedAt.kid {v : Nat} {ab : Ab} (R : RootedAt n ls v ab) {c : Nat} (h : c ∈ near ls v) (hv : v < n) : ab[c]? = some (some v) := by
  obtain ⟨l, ⟨rk, T⟩, f⟩ := R
  rcases (f.joined (by omega) c).mp h with z | z
  · exact z
  · rw [T.root] at z; cases z
end
end KM


set_option linter.all false
namespace KM
def fsE (E : Nat → Nat → Bool) : Nat → List Nat
  | 0 => []
  | i + 1 => if (List.range i).any (fun j => E j i) = true then fsE E i else fsE E i ++ [i]
def clsE (E : Nat → Nat → Bool) (n k : Nat) : List Nat := (List.range n).filter fun j => E j k
def grpE (n : Nat) (E : Nat → Nat → Bool) : List (List Nat) := (fsE E n).map (clsE E n)
structure EqvE (n : Nat) (E : Nat → Nat → Bool) : Prop where
  refl : ∀ i, i < n → E i i = true
  symm : ∀ i j, i < n → j < n → E i j = true → E j i = true
  trans : ∀ i j k, i < n → j < n → k < n → E i j = true → E j k = true → E i k = true
theorem clsE_first {E : Nat → Nat → Bool} {n k : Nat} (Q : EqvE n E) (hk : k < n) : (clsE E n k)[0]? = some k ↔ (List.range k).any (fun j => E j k) = false := by
  have hs : clsE E n k = clsE E k k ++ (List.range' k (n - k)).filter (fun j => E j k) := by
    unfold clsE
    have : List.range n = List.range k ++ List.range' k (n - k) := by
      rw [List.range_eq_range', List.range_eq_range']
      have := List.range'_append (s := 0) (m := k) (n := n - k) (step := 1)
      rw [Nat.one_mul, Nat.zero_add] at this
      rw [this]
      congr 1
      omega
    rw [this, List.filter_append]
  have hr : (List.range' k (n - k)).filter (fun j => E j k) = k :: (List.range' (k + 1) (n - k - 1)).filter (fun j => E j k) := by
    obtain ⟨m, hm⟩ : ∃ m, n - k = m + 1 := ⟨n - k - 1, by omega⟩
    rw [hm, List.range'_succ, List.filter_cons_of_pos (p := fun j => E j k) (Q.refl k hk)]
    rfl
  rw [hs, hr]
  constructor
  · intro h
    rw [Bool.eq_false_iff]
    intro z
    obtain ⟨j, hj, z⟩ := List.any_eq_true.mp z
    have hj' := List.mem_range.mp hj
    have hm : j ∈ clsE E k k := List.mem_filter.mpr ⟨hj, z⟩
    cases q : clsE E k k with
    | nil => rw [q] at hm; cases hm
    | cons a t =>
      rw [q] at h
      have e : a = k := Option.some.inj h
      have : a ∈ clsE E k k := by rw [q]; exact List.mem_cons_self
      have := List.mem_range.mp (List.mem_filter.mp this).1
      omega
  · intro h
    have : clsE E k k = [] := by
      refine List.filter_eq_nil_iff.mpr fun j hj => ?_
      have := List.any_eq_false.mp h j hj
      exact this
    rw [this]
    rfl
def eqAt {κ : Type} [DecidableEq κ] (ts : List κ) (i j : Nat) : Bool := decide (ts[i]? = ts[j]?)
theorem eqvAt {κ : Type} [DecidableEq κ] (ts : List κ) (n : Nat) : EqvE n (eqAt ts) where
  refl := fun i _ => decide_eq_true rfl
  symm := fun i j _ _ h => decide_eq_true (of_decide_eq_true h).symm
  trans := fun i j k _ _ _ h1 h2 => decide_eq_true ((of_decide_eq_true h1).trans (of_decide_eq_true h2))
def grp {κ : Type} [DecidableEq κ] (ts : List κ) : List (List Nat) := grpE ts.length (eqAt ts)
end KM


set_option Elab.async false
set_option linter.all false
set_option maxRecDepth 100000
namespace KD
open PySem L2 KM PyProof.Rows
theorem rtd_of {A : AI} {ab : Ab} {r : Nat} {rk : Nat → Nat} (e : A = ab.map toI) (T : Tree ab r rk) : Rtd A := ⟨ab, r, rk, e, T⟩
structure KitQ (P : Program) (w : World) (K : PySem.W.Frag) (mg : Str → Option Value) (base : Heap) (k : Nat) (x : Str) (ps : List Str) (sp : Sp) (f : Addr) (fd : FuncData) : Prop where
  ok : FnOk P w K mg base CX0 k f fd ps sp
  bd : Binds K fd ps []
  bd1 : Binds K fd ps [.none]
  kp : PySem.W.keepIn K (.ref f) = true
  mg : mg x = some (.ref f)
theorem KitD.quiet {P : Program} {w : World} {K : PySem.W.Frag} {mg : Str → Option Value} {base : Heap} {k : Nat} {x : Str} {ps : List Str} {sp sp' : Sp} {f : Addr} {fd : FuncData} (G : KitD P w K mg base k x ps sp f fd)
    (h : ∀ vs H Q E, sp' vs H Q E → sp vs H Q E0) : KitQ P w K mg base k x ps sp' f fd := ⟨G.ok.quiet h, G.bd, G.bd1, G.kp, G.mg⟩
theorem KitE.of {P : Program} {w : World} {K : PySem.W.Frag} {mg : Str → Option Value} {base : Heap} {k : Nat} {x : Str} {ps : List Str} {sp : Sp} {f : Addr} {fd : FuncData} (G : Kit P w K mg base k x ps sp f fd) : KitE P w K mg base k x ps sp f fd := ⟨G.ok.calm, G.bd, G.kp, G.mg⟩
structure GroupsAt (H : Hp) (l : Addr) (as : List Addr) (gs : List (List Nat)) : Prop where
  top : H l = some (.lst (as.map V.ref))
  len : as.length = gs.length
  each : ∀ (i : Nat) (c : Addr) (g : List Nat), as[i]? = some c → gs[i]? = some g → H c = some (.lst (g.map vN))
end KD
namespace KD
open PySem L2 KM PyProof.Rows
end KD


set_option Elab.async false
set_option linter.all false
set_option maxRecDepth 100000
namespace L2
open PySem PySem.Spec PyProof.Rows
section
variable {X : Cx}
theorem ints_vals : ∀ {ns : List Int} {vs : List Value}, Vals (ns.map V.int) vs → IntsAre vs ns
  | [], _, .nil => .nil
  | n :: ns, v :: vs, .cons r rs => by
    obtain ⟨t, rfl⟩ := r
    exact .cons n t (ints_vals rs)
def rSortI (K : PySem.W.Frag) : List V → Hp → VK → Prop := fun xs H Q => ∃ p ns, xs = [.ref p] ∧ SqL K H p (ns.map V.int) ∧ ns.length < 64 ∧
  ∀ l (ns' : List Int), ns'.Perm ns → ns'.Pairwise (· ≤ ·) → H l = none → Q (.ref l) (upd H l (.lst (ns'.map V.int)))
theorem call_sortedI : CallR X (.builtin "sorted") (rSortI X.K) := by
  intro pins s σ H xs us Q I r h
  obtain ⟨p, ns, rfl, hq, h64, q⟩ := h
  obtain ⟨u, rfl, rx⟩ := vals1 r
  cases rx
  obtain ⟨its, rv, pl, hz⟩ := I.list hq
  have hl := rv.length
  rw [List.length_map] at hl hz
  refine sorted_ints pl.isList (ints_vals rv) (by omega) fun out ns' h1 h2 h3 => ?_
  obtain ⟨e, he⟩ := sortedAll_at s.heap its out
  refine ⟨.ref (s.heap.objs.size + 1), _, I.laid (t' := s.toks) (fun b o q => sortedAll_old q) (Nat.le_succ _) (o := .lst (ns'.map V.int)) ?_, rfl, q _ ns' h2 h3 (I.hok.fresh (Nat.le_succ _))⟩
  refine ⟨?_, out.toList, e, vals_ints h1, ?_⟩
  · rw [List.length_map, h2.length_eq]; exact hz
  · rw [Array.toArray_toList]; exact he
end
end L2


set_option Elab.async false
set_option linter.all false
set_option maxRecDepth 100000
namespace KD
open PySem L2 KM PyProof.Rows
theorem kitList (K : PySem.W.Frag) : PySem.W.kitOne K (.type "list") (.type "list") = some true := rfl
theorem kitTup (K : PySem.W.Frag) : PySem.W.kitOne K (.type "tuple") (.type "tuple") = some true := rfl
theorem eqL_self {xs : List V} (h : xs.all flatV = true) : eqL xs xs = true := by
  unfold eqL
  rw [beq_self_eq_true, Bool.true_and, List.all_eq_true]
  intro j hj
  have hj := List.mem_range.mp hj
  refine eqV_self ?_
  have : xs.getD j .non = xs[j] := by simp [hj]
  rw [this]
  exact List.all_eq_true.mp h _ (List.getElem_mem hj)
end KD
namespace KD
open PySem L2 KM PyProof.Rows
theorem cutMid2 (l : List Int) (i j : Nat) : ∃ cs : List Int, cutV (l.map V.int) (some (i : Int)) (some (j : Int)) = cs.map V.int ∧ cs.length ≤ j - i := by
  refine ⟨(l.drop (HT.sIx l.length 0 (some (i : Int)))).take (HT.sIx l.length l.length (some (j : Int)) - HT.sIx l.length 0 (some (i : Int))), ?_, ?_⟩
  · unfold cutV
    rw [List.length_map, List.map_take, List.map_drop]
  · rw [HT.sIx_nat, HT.sIx_nat, List.length_take, List.length_drop]
    omega
end KD


set_option Elab.async false
set_option linter.all false
set_option maxRecDepth 100000
namespace L2
open PySem PySem.Spec PyProof.Rows
section
variable {M : Model} {A : Around} {E : Value → Shared → Prop} {s : Shared}
theorem setFlight_any {B : Heap} {l : List Env} {e : Addr} {cls a0 fl : Value} {fr : Option Addr} {Q : Unit → Shared → Prop} (hkb : B.StaysIn s.heap) (hl : s.heap.FunFrames B l) (ht : s.heap.TracedAtW B e cls a0 fl)
    (h : ∀ h' fl', B.StaysIn h' → h'.FunFrames B l → h'.TracedAtW B e cls a0 fl' → s.heap.UpToSlots h' → Q () { s with heap := h' }) : wpAny M A (setFlight (.ref e) fr) Q E s := by
  obtain ⟨oe, vs, T, oT, ts, he, hcls, hd, h1, hnT, hTe, hT, hdT, h3⟩ := ht
  have hsz3 : 3 < ts.size := (Array.getElem?_eq_some_iff.mp h3).1
  have other : ∀ b, b ≠ T → (s.heap.update T (Obj.mapFields (·.setIfInBounds 3 (fr.elim Value.none fun f => rawInt f)))).get? b = s.heap.get? b := fun b hb => Heap.get?_update_other _ _ (Ne.symm hb)
  have noRec : ∀ b o, s.heap.get? b = some o → (∀ vs, o.data ≠ .fields vs) → b ≠ T := fun b o hb hnf q => by
    rw [q, hT] at hb; injection hb with hb; subst hb; exact hnf ts hdT
  unfold setFlight
  refine wpAny_bind (wpAny_field he hd h1 ?_)
  rw [if_pos (show (Value.ref T != Value.none) = true from by simp)]
  refine wpAny_setField hT hdT hsz3 (h _ (fr.elim Value.none fun f => rawInt f) (fun b o hbo => (other b fun q => by rw [q, hnT] at hbo; cases hbo).trans (hkb b o hbo))
    (hl.of_keeps fun b o hb hnf => ⟨o, (other b (noRec b o hb hnf)).trans hb, rfl⟩) ?_ fun b o hb hnf => ⟨o.slots, (other b (noRec b o hb hnf)).trans hb⟩)
  exact ⟨oe, vs, T, _, _, (other e (Ne.symm hTe)).trans he, hcls, hd, h1, hnT, hTe, Heap.get?_update_self _ hT (Obj.isFreed_of_fields (Obj.data_mapFields hdT _)), Obj.data_mapFields hdT _, by simp [hsz3]⟩
theorem leaving_any {B : Heap} {env : Env} {outer : List Env} {L e : Addr} {cls a0 fl : Value} {Q : Unit → Shared → Prop} (hfr : A.frames = some (env :: outer)) (hf : env.frame = some L) (hkb : B.StaysIn s.heap) (hen : B.get? e = none)
    (hl : s.heap.FunFrames B (env :: outer)) (ht : s.heap.TracedAtW B e cls a0 fl) (hQ : ∀ h', Heap.FlyingW B outer e cls a0 h' → s.heap.UpToSlots h' → Q () { s with heap := h' }) : wpAny M A (leaving env (.ref e)) Q E s := by
  obtain ⟨oe, vs, T, oT, ts, he, ⟨hcls, h0⟩, hd, h1, hnT, hTe, hT, hdT, h3⟩ := id ht
  unfold leaving noteFrame
  simp only [hf]
  refine wpAny_bind (wpAny_bind (wpAny_field he hd h1 ?_))
  rw [if_pos (show (Value.ref T != Value.none) = true from by simp)]
  refine wpAny_bind (wpAny_field hT hdT h3 ?_)
  by_cases hb : (fl == rawInt L) = true
  · rw [if_pos hb]
    refine wpAny_pure ?_
    exact wpAny_setFlight_noneW hkb hl ht fun h' x1 x2 x3 x4 => hQ h' ⟨x1, hen, x2.2.2, x3⟩ fun b o q hn => ⟨o.slots, x4 b o q hn⟩
  · rw [if_neg hb]
    refine wpAny_bind (wpAny_setField hT hdT (Array.getElem?_eq_some_iff.mp h3).1 ?_)
    have other : ∀ b, b ≠ T → (s.heap.update T (Obj.mapFields (·.setIfInBounds 3 Value.none))).get? b = s.heap.get? b := fun b hb => Heap.get?_update_other _ _ (Ne.symm hb)
    have noRec : ∀ b o, s.heap.get? b = some o → (∀ vs, o.data ≠ .fields vs) → b ≠ T := fun b o hb hnf q => by
      rw [q, hT] at hb; injection hb with hb; subst hb; exact hnf ts hdT
    subst hcls
    refine wpAny_newEntryW hfr (hl.of_keeps fun b o hb hnf => ⟨o, (other b (noRec b o hb hnf)).trans hb, rfl⟩) hf ((other e (Ne.symm hTe)).trans he)
      (fun b o hbo => (other b fun q => by rw [q, hnT] at hbo; cases hbo).trans (hkb b o hbo)) hen hd (Array.getElem?_eq_some_iff.mp h1).1 h0
      fun h' ⟨x1, x2, x3, x4⟩ => hQ h' ⟨x1, hen, x2.2.2, x3⟩ fun b o q hn => x4 b o ((other b (noRec b o q hn)).trans q) hn
end
theorem frames_same {h h' B : Heap} : ∀ {l : List Env}, h.FunFrames B l → (∀ b ∈ frs l, h'.get? b = h.get? b) → h'.FunFrames B l
  | [], _, _ => trivial
  | env :: rest, ⟨k, ⟨L, o, hf, hn, ho, hd⟩, hr⟩, e => by
    have hin : L ∈ frs (env :: rest) := List.mem_filterMap.mpr ⟨env, List.mem_cons_self, hf⟩
    exact ⟨k, ⟨L, o, hf, hn, by rw [e L hin]; exact ho, hd⟩, frames_same hr fun b hb => e b (by
      obtain ⟨x, hx, q⟩ := List.mem_filterMap.mp hb
      exact List.mem_filterMap.mpr ⟨x, List.mem_cons_of_mem _ hx, q⟩)⟩
theorem un_flyX {P : Program} {w : World} {H H' : Hp} {h0 h1 h2 : Heap} {fs ex : List Addr} (u : Un fs ex H H' h0 h1) (hok : HOk P w H' h1) (frf : ∀ b ∈ fs, H' b = none)
    (ka : ∀ b ob, h1.get? b = some ob → b ∉ fs → ((b ∉ ex ∧ ∃ o0, h0.get? b = some o0) ∨ H' b ≠ none) → h2.get? b = some ob)
    (kb : ∀ b ∈ fs, ∀ ob, h1.get? b = some ob → ∃ sl, h2.get? b = some { ob with slots := sl }) : Un fs ex H H' h0 h2 ∧ HOk P w H' h2 := by
  refine ⟨⟨fun b ob e n hb hx => ka b ob (u.keep b ob e n hb hx) hb (.inl ⟨hx, _, e⟩), fun b ob e n hb hx => ?_, u.free, fun b ob e hx => ?_, u.tups, u.frzs, u.tbls⟩, fun b u' e => ?_⟩
  · obtain ⟨sl, e1⟩ := u.slot b ob e n hb hx
    obtain ⟨sl2, e2⟩ := kb b hb _ e1
    exact ⟨sl2, e2⟩
  · obtain ⟨o1, e1⟩ := u.there b ob e hx
    by_cases hb : b ∈ fs
    · obtain ⟨sl, e2⟩ := kb b hb _ e1
      exact ⟨_, e2⟩
    · exact ⟨_, ka b o1 e1 hb (.inl ⟨hx, _, e⟩)⟩
  · refine (hok b u' e).stay (fun c v hc q => ?_) (fun _ q => q) fun _ _ q => q
    have hn : H' c ≠ none := by
      rcases hc with z | z
      · rw [z, e]; exact fun y => nomatch y
      · rw [z]; exact fun y => nomatch y
    exact ka c v q (fun hb => hn (frf c hb)) (.inr hn)
structure CFly (X : Cx) (H1 : Hp) (s₂ : Shared) (fp : List Addr) (C : Addr) (H' : Hp) (a : Addr) (cls a0 fl : Value) (B : Heap) (s' : Shared) : Prop where
  os : s'.os = s₂.os
  bare : AllBare s'.gens
  un : Un (frs X.stack) fp H1 H' s₂.heap s'.heap
  hok : HOk X.prog X.w H' s'.heap
  stays : B.StaysIn s'.heap
  hen : B.get? a = none
  ff : s'.heap.FunFrames B X.stack
  tr : s'.heap.TracedAtW B a cls a0 fl
  cov : ∀ b ob, s'.heap.get? b = some ob → b ∉ frs X.stack → b ≠ C → ((b ∉ fp ∧ ∃ o0, s₂.heap.get? b = some o0) ∨ H' b ≠ none) → B.get? b = some ob
  frf : ∀ b ∈ frs X.stack, H' b = none
  cn : H' C = none
  cb : B.get? C = none
section
variable {X : Cx} {H1 H' : Hp} {s₂ s' : Shared} {fp : List Addr} {C a : Addr} {cls a0 fl fl' : Value} {B h2 : Heap}
theorem CFly.there (F : CFly X H1 s₂ fp C H' a cls a0 fl B s') {b : Addr} (h : (b ∉ fp ∧ ∃ o0, s₂.heap.get? b = some o0) ∨ H' b ≠ none) : ∃ o1, s'.heap.get? b = some o1 := by
  rcases h with ⟨hx, o0, h0⟩ | hn
  · exact F.un.there b o0 h0 hx
  · cases q : H' b with
    | none => exact absurd q hn
    | some u => exact (F.hok b u q).ex
theorem ns_slots {m : Str → Option Value} {h h' : Heap} (n : h.Ns C m) (k : h.UpToSlots h') : h'.Ns C m := by
  obtain ⟨o, es, ep, e, d, r⟩ := n
  obtain ⟨sl, e'⟩ := k C o e (fun vs z => by rw [d] at z; cases z)
  exact ⟨_, es, ep, e', d, r⟩
theorem CFly.turn (hC : s₂.heap.objs.size ≤ C) (F : CFly X H1 s₂ fp C H' a cls a0 fl B s') (k1 : B.StaysIn h2) (k2 : h2.FunFrames B X.stack) (k3 : h2.TracedAtW B a cls a0 fl') (k4 : s'.heap.UpToSlots h2) : CFly X H1 s₂ fp C H' a cls a0 fl' B { s' with heap := h2 } := by
  have nC : ∀ b, ((b ∉ fp ∧ ∃ o0, s₂.heap.get? b = some o0) ∨ H' b ≠ none) → b ≠ C := fun b h z => by
    rcases h with ⟨_, o0, h0⟩ | hn
    · have := Heap.lt_size h0
      rw [z] at this
      exact absurd this (Nat.not_lt.mpr hC)
    · rw [z] at hn
      exact hn F.cn
  have ka : ∀ b ob, s'.heap.get? b = some ob → b ∉ frs X.stack → ((b ∉ fp ∧ ∃ o0, s₂.heap.get? b = some o0) ∨ H' b ≠ none) → h2.get? b = some ob := fun b ob q hb hc => k1 b ob (F.cov b ob q hb (nC b hc) hc)
  have z := un_flyX F.un F.hok F.frf ka (fun b hb ob q => by
    obtain ⟨_, o', ho', hnf⟩ := F.ff.mem hb
    rw [q] at ho'
    cases ho'
    exact k4 b ob q hnf)
  refine ⟨F.os, F.bare, z.1, z.2, k1, F.hen, k2, k3, fun b ob q hb hbC hc => ?_, F.frf, F.cn, F.cb⟩
  obtain ⟨o1, q1⟩ := F.there hc
  have h3 := F.cov b o1 q1 hb hbC hc
  have h4 := k1 b o1 h3
  have h5 : h2.get? b = some ob := q
  rw [h5] at h4
  cases h4
  exact h3
theorem CFly.drop (hC : s₂.heap.objs.size ≤ C) (hfC : C ∉ frs X.stack) (F : CFly X H1 s₂ fp C H' a cls a0 fl B s') (hns : ∃ m, s'.heap.Ns C m) (hs : Heap.SameBut C s'.heap h2) : CFly X H1 s₂ fp C H' a cls a0 fl B { s' with heap := h2 } := by
  obtain ⟨m, oc, es, ep, ec, dc, _⟩ := hns
  have nC : ∀ b, ((b ∉ fp ∧ ∃ o0, s₂.heap.get? b = some o0) ∨ H' b ≠ none) → b ≠ C := fun b h z => by
    rcases h with ⟨_, o0, h0⟩ | hn
    · have := Heap.lt_size h0
      rw [z] at this
      exact absurd this (Nat.not_lt.mpr hC)
    · rw [z] at hn
      exact hn F.cn
  have hfr : ∀ b ∈ frs X.stack, h2.get? b = s'.heap.get? b := fun b hb => hs.2 b fun z => hfC (by rw [← z]; exact hb)
  have z := un_flyX (h2 := h2) F.un F.hok F.frf (fun b ob q hb hc => (hs.2 b (nC b hc)).trans q) (fun b hb ob q => ⟨ob.slots, (hfr b hb).trans q⟩)
  obtain ⟨oe, vs, T, oT, ts, he, hcls, hd, h1, hnT, hTe, hT, hdT, h3⟩ := F.tr
  have eC : a ≠ C := fun z => by rw [z, ec] at he; cases he; rw [dc] at hd; cases hd
  have tC : T ≠ C := fun z => by rw [z, ec] at hT; cases hT; rw [dc] at hdT; cases hdT
  exact ⟨F.os, F.bare, z.1, z.2, fun b o q => (hs.2 b (fun y => by rw [y, F.cb] at q; cases q)).trans (F.stays b o q), F.hen, frames_same F.ff hfr,
    ⟨oe, vs, T, oT, ts, (hs.2 a eC).trans he, hcls, hd, h1, hnT, hTe, (hs.2 T tC).trans hT, hdT, h3⟩, fun b ob q hb hbC hc => F.cov b ob ((hs.2 b hbC).symm.trans q) hb hbC hc, F.frf, F.cn, F.cb⟩
end
def compCxE (X : Cx) (N' : List Str) (scope : Scope) (cl : List (Str × Addr)) (C : Addr) (s₀ : Shared) (H₀ : Hp) (fp : List Addr) (xe : Value → Shared → Prop) : Cx := (compCx X N' scope cl C s₀ H₀ fp).wish xe
def XBlock (X : Cx) (H1 : Hp) (s₂ : Shared) (fp : List Addr) (C : Addr) (E : XK) (e : Value) (s' : Shared) : Prop :=
  ∃ a cls a0 H' B, e = .ref a ∧ CFly X H1 s₂ fp C H' a cls a0 .none B s' ∧ (∃ m, s'.heap.Ns C m) ∧ E cls none H'
section
variable {X : Cx} {elt tg iter : Expr} {ifs : List Expr} {scope : Scope} {cl : List (Str × Addr)} {N' : List Str} {js : List (Option Nat)} {pos : Pos} {g : TG} {ti : TT} {te : TE} {E : XK}
theorem pass_comp {s₂ : Shared} {H1 : Hp} {fp : List Addr} {C : Addr} : Passes (CXe X.prog X.w) (compCxE X N' scope cl C s₂ H1 fp (XBlock X H1 s₂ fp C E)) E := by
  intro pins' τ H s e s' I2 hcx
  obtain ⟨a, cls, a0, H', B, rfl, os, bare, un, hok, frf, hfl, cov, hE⟩ := hcx
  have I' := I2.call' (ch := []) os un hok bare (fun b z => absurd z (by simp))
  have st : (PySem.W.hideAll B [C]).StaysIn B := fun b o q => PySem.W.of_hideAll _ q
  obtain ⟨f1, f2, f3, f4⟩ := PySem.W.flyingW_base st hfl
  have hcn : H' C = none := I'.free
  refine ⟨a, cls, a0, H', PySem.W.hideAll B [C], rfl, ⟨I'.os, bare, I'.base, hok, f1, f2, f3, f4, fun b ob q hb hbC hc => ?_, frf, hcn, PySem.W.hideAll_none _ (List.mem_singleton.mpr rfl)⟩, ?_, hE⟩
  · refine PySem.W.hideAll_get _ (cov b ob q hb ?_) (fun z => hbC (List.mem_singleton.mp z))
    rcases hc with ⟨hx, o0, h0⟩ | hn
    · exact .inl (I2.base.there b o0 h0 hx)
    · exact .inr hn
  · obtain ⟨m, hn, _⟩ := I'.loc
    exact ⟨m, hn⟩
theorem comp_blockE {pins : List (Addr × Obj)} {σ : St} {H1 : Hp} {s₂ : Shared} {it : Addr} {fp : List Addr} {tn : Nat → Heap → Prop} {J : It} {Q : VK} {RR : Value → Addr → Result → Shared → Prop} {E' : Value → Shared → Prop}
    (K : CompOk X scope cl N' js) (hc : X.calm = true) (I : Inv X pins σ H1 s₂) (T : Turn X.prog X.w X.K tg J fp it tn) (st : tn 0 s₂.heap) (hf : ∀ b ∈ fp, FpOk X pins H1 b)
    (hg : ∀ C s₀ H₀ fp, PG (compCx X N' scope cl C s₀ H₀ fp) tg g) (hi : ∀ C s₀ H₀ fp, PIf (compCx X N' scope cl C s₀ H₀ fp) ifs ti)
    (he : ∀ C s₀ H₀ fp xe, Passes (CXe X.prog X.w) (compCxE X N' scope cl C s₀ H₀ fp xe) E → PE (compCxE X N' scope cl C s₀ H₀ fp xe) elt te)
    (hW : CompW J js g ti te σ H1 Q)
    (hRR : ∀ D C s' H', Inv X pins σ H' s' → (∃ m, s'.heap.Ns C m) → FpOk X pins H' C → Q (.ref D) H' → RR (.ref D) C (.ok .next) s')
    (hRE : ∀ D C e s', s₂.heap.objs.size ≤ C → C ∉ frs X.stack → XBlock X H1 s₂ fp C E e s' → notedBy (model X.prog X.w) X.A (compEnvC scope cl C X.env) (fun e s' => RR (.ref D) C (.error e) s') e s') :
    wpAny (model X.prog X.w) X.A (newList []) (fun acc s₃ => wpAny (model X.prog X.w) X.A (newFunctionEnv scope X.env.globals cl [] X.env.qual none .none (some X.env)) (fun cenv s₄ =>
      codeAny (model X.prog X.w) X.A (.compStart (.ListComp elt [⟨tg, iter, ifs, 0⟩] scope pos) 0 (.ref it) acc { cenv with scope := relabel scope X.env }) (RR acc cenv.locals) s₄) E' s₃) E' s₂ := by
  refine wpAny_newObj_type (wpAny_newFunctionEnv K.nocell (by intro y hy; simp at hy) (fun h₁ hns₁ hsb₁ => ?_) K.kind)
  dsimp only at hns₁ hsb₁ ⊢
  generalize hH2 : s₂.heap.push { cls := .type "list", dict := none, data := .seq ([] : List Value).toArray } = H2 at hns₁ hsb₁ ⊢
  have hC : H2.objs.size = s₂.heap.objs.size + 1 := by rw [← hH2, Heap.size_push]
  have hlt : s₂.heap.objs.size < H2.objs.size := by rw [hC]; exact Nat.lt_succ_self _
  have below : ∀ b, b < s₂.heap.objs.size → b ≠ H2.objs.size := fun b hb => Nat.ne_of_lt (Nat.lt_trans hb hlt)
  have old : ∀ b o, s₂.heap.get? b = some o → h₁.get? b = some o := fun b o e => hsb₁.extBut b o (below b (Heap.lt_size e)) (Heap.get?_push_of_some _ (hH2 ▸ Heap.get?_push_of_some _ e))
  have acc : h₁.get? s₂.heap.objs.size = some { cls := .type "list", data := .seq ([] : List Value).toArray } := hsb₁.extBut _ _ (Nat.ne_of_lt hlt) (Heap.get?_push_of_some _ (hH2 ▸ Heap.get?_push_size _ rfl))
  have hfl : ∀ b ∈ fp, b < s₂.heap.objs.size := fun b hb => by
    obtain ⟨o, q, _⟩ := T.obj 0 _ st b hb
    exact Heap.lt_size q
  have hCs : H2.objs.size ∉ frs X.stack := fun hm => by
    obtain ⟨_, o', ho', _⟩ := I.stack.mem hm
    exact absurd (Nat.lt_trans hlt (Heap.lt_size ho')) (Nat.lt_irrefl _)
  obtain ⟨W, ⟨m0, w0⟩, turn⟩ := hW s₂.heap.objs.size (I.hok.fresh (Nat.le_refl _))
  have stat : ∀ {H' : Hp}, (∀ b ∈ fp, H' b = none) → ∀ b ∈ fp, FpOk (compCx X N' scope cl H2.objs.size s₂ H1 fp) [] H' b := fun hn b hb =>
    ⟨hn b hb, below b (hfl b hb), fun z => (List.mem_cons.mp (I.stkSub b z)).elim (hf b hb).2.1 (hf b hb).2.2.1, .inl hb, fun x c e => (hf b hb).2.2.2.2.1 x c (K.cells x c e), fun p hp => absurd (show p ∈ ([] : List (Addr × Obj)) from hp) (by simp)⟩
  have loop : ∀ s₃ : Shared, s₃ = { s₂ with heap := h₁, toks := s₂.toks + ([] : List (Str × Value)).length } →
      codeAny (model X.prog X.w) X.A (.compLoop (.ListComp elt [⟨tg, iter, ifs, 0⟩] scope pos) 0 (.ref it) (.ref s₂.heap.objs.size) (compEnvC scope cl H2.objs.size X.env))
        (RR (.ref s₂.heap.objs.size) H2.objs.size) s₃ := by
    rintro s₃ rfl
    have I0 := comp_start (tk := s₂.toks + ([] : List (Str × Value)).length) K I hf hfl hlt old hns₁ acc
    refine codeAny_loop rfl (fun n s' => ∃ i ys τ H', Inv (compCx X N' scope cl H2.objs.size s₂ H1 fp) [] τ H' s' ∧ tn i s'.heap ∧ (∀ b ∈ fp, H' b = none) ∧ W i n ys τ H') (fun n s' hI => ?_) m0
      ⟨0, [], outSt js σ, _, I0, T.keep _ _ _ st (fun b _ o e => old b o e), fun b hb => by rw [upd_ne (Nat.ne_of_lt (hfl b hb))]; exact (hf b hb).1, w0⟩
    obtain ⟨i, ys, τ, H', I', st', fr', w'⟩ := hI
    show wpAny _ X.A ((compTurn (.ListComp elt [⟨tg, iter, ifs, 0⟩] scope pos) 0 (.ref it) (.ref s₂.heap.objs.size) (compEnvC scope cl H2.objs.size X.env)).onRaise (fun x => do noteFrame x (compEnvC scope cl H2.objs.size X.env); theTreesLotGoes x)) _ _ s'
    refine wpAny_noted ?_
    rw [compTurn_list]
    refine wpAny_bind (wpAny_standAt (wpAny_bind ?_))
    rcases turn i n ys τ H' w' with ⟨stop, qn⟩ | ⟨go, step⟩
    · refine wpAny_mono (T.done (compCx X N' scope cl H2.objs.size s₂ H1 fp) rfl rfl rfl hc i [] s' τ H' _ I' (stat fr') st' stop) (fun r s4 hr => ?_) fun _ _ e => e
      obtain ⟨hr, I4⟩ := hr
      subst hr
      refine wpAny_pure ?_
      have u : Un (frs X.stack) fp H1 H' s₂.heap s4.heap := I4.base
      refine hRR _ _ s4 H' (I.call' (ch := fp) I4.os u I4.hok I4.bare fun b hb => ⟨(hf b hb).2.2.2.1, (hf b hb).2.1, (hf b hb).2.2.2.2.1, (hf b hb).2.2.2.2.2⟩) ?_ (I.fpOk (Nat.le_of_lt hlt) I4.free) qn
      obtain ⟨m, hn, _⟩ := I4.loc
      exact ⟨m, hn⟩
    · refine wpAny_mono (T.item (compCx X N' scope cl H2.objs.size s₂ H1 fp) rfl rfl rfl hc i [] s' τ H' _ I' (stat fr') st' go) (fun r s4 hr => ?_) fun _ _ e => e
      obtain ⟨u, hr, h4⟩ := hr
      subst hr
      refine wpAny_bind (wpAny_mono h4 (fun _ s5 h5 => ?_) fun _ _ e => e)
      obtain ⟨x, H5, I5, r5, y5, st5, fr5⟩ := h5
      have I5' := I5.pinned (stat fr5) (T.obj _ _ st5)
      have again : ∀ {s7 : Shared} {τ7 : St} {H7 : Hp} {zs : List V} {m' : Nat}, m' < n → Inv (compCx X N' scope cl H2.objs.size s₂ H1 fp) ([] ++ pinsAt fp s5.heap) τ7 H7 s7 → W (i + 1) m' zs τ7 H7 →
          ∃ m, m < n ∧ ∃ i ys τ H', Inv (compCx X N' scope cl H2.objs.size s₂ H1 fp) [] τ H' s7 ∧ tn i s7.heap ∧ (∀ b ∈ fp, H' b = none) ∧ W i m ys τ H' := fun {s7 τ7 H7 zs m'} hm I7 w7 => by
        refine ⟨m', hm, i + 1, zs, τ7, H7, I7.unpinned, T.keep _ _ _ st5 fun b hb o e => (I7.pin (b, o) (List.mem_append_right _ (List.mem_append_right _ (mem_pinsAt hb e)))).1, fun b hb => ?_, w7⟩
        obtain ⟨o, e, d⟩ := T.obj _ _ st5 b hb
        exact (I7.pin (b, o) (List.mem_append_right _ (List.mem_append_right _ (mem_pinsAt hb e)))).2.1
      refine wpAny_bind (thnE (hg _ _ _ _ _ s5 τ H5 x u _ I5' r5 (step x H5 y5)) fun _ s6 h6 => ?_)
      obtain ⟨σ6, H6, I6, q6⟩ := h6
      refine wpAny_bind (thnE (hi _ _ _ _ _ s6 σ6 H6 _ I6 q6) fun ok s7 h7 => ?_)
      obtain ⟨H7, I7, q7⟩ := h7
      cases ok with
      | false =>
        rw [if_neg Bool.false_ne_true] at q7
        obtain ⟨m', hm, w7⟩ := q7
        exact wpAny_pure ⟨rfl, again hm I7 w7⟩
      | true =>
        rw [if_pos rfl] at q7
        refine wpAny_bind (wpAny_bind (wpAny_mono (he H2.objs.size s₂ H1 fp (XBlock X H1 s₂ fp H2.objs.size E) pass_comp _ s7 σ6 H7 _ (I7.wish _) q7) (fun yv s8 h8 => ?_) fun e s8 h8 => hRE _ _ e s8 (Nat.le_of_lt hlt) hCs h8))
        obtain ⟨y, H8, I8, r8, e8, z8, m', hm, w8⟩ := h8
        have I8 := I8.unwish
        refine wpAny_bind (thnE (mt_append (X := compCx X N' scope cl H2.objs.size s₂ H1 fp) _ s8 σ6 H8 (.ref s₂.heap.objs.size) [y] (.ref s₂.heap.objs.size) [yv] (fun v H9 => H9 = upd H8 s₂.heap.objs.size (.lst (ys ++ [y]))) I8 rfl (.cons r8 .nil) ⟨_, ys, y, rfl, rfl, e8, z8, rfl⟩) fun _ s9 h9 => ?_)
        obtain ⟨_, H9, I9, _, e9⟩ := h9
        subst e9
        exact wpAny_pure (wpAny_pure ⟨rfl, again hm I9 w8⟩)
  exact codeAny_compStart_list (loop _ rfl) (T.self _ 0 _ _ _ (T.keep _ _ _ st fun b _ o e => old b o e) (loop _ rfl))
end
section
variable {P : Program} {w : World} {K : PySem.W.Frag} {mg : Str → Option Value} {base : Heap} {N : List Str} {qual : Str} {scope0 : Scope} {f : Addr} {cd : Value} {A : Around} {outer : List Env} {s0 : Shared} {H0 : Hp} {E : XK}
theorem leavesX {pins : List (Addr × Obj)} {σ : St} {H' : Hp} {s' : Shared} {a : Addr} {cls a0 fl : Value} {B : Heap} (I' : Inv (cxOf (CXe P w) P w K mg base N qual scope0 f cd A outer s0 H0 E) pins σ H' s')
    (k1 : B.StaysIn s'.heap) (k2 : B.get? a = none) (k3 : s'.heap.FunFrames B (envOfC qual scope0 s0.heap.objs.size f cd :: outer)) (k4 : s'.heap.TracedAtW B a cls a0 fl)
    (cov : ∀ b ob, s'.heap.get? b = some ob → b ∉ frs (envOfC qual scope0 s0.heap.objs.size f cd :: outer) → ((∃ o0, s0.heap.get? b = some o0) ∨ H' b ≠ none) → B.get? b = some ob) (hE : E cls none H') :
    (cxOf (CXe P w) P w K mg base N qual scope0 f cd A outer s0 H0 E).xe (.ref a) s' := by
  have hfree : ∀ b ∈ frs (envOfC qual scope0 s0.heap.objs.size f cd :: outer), H' b = none := I'.stkFree
  have hL : ∀ b ∈ frs (envOfC qual scope0 s0.heap.objs.size f cd :: outer), b = s0.heap.objs.size ∨ b ∈ frs outer := fun b hb => List.mem_cons.mp (I'.stkSub b hb)
  refine leaving_any (L := s0.heap.objs.size) I'.ok.frames rfl k1 k2 k3 k4 fun h' x1 x2 => ?_
  have hun : Un (frs outer) [] H0 H' s0.heap s'.heap := I'.base
  have old : ∀ b, b ∉ frs outer → ((∃ o0, s0.heap.get? b = some o0) ∨ H' b ≠ none) → b ∉ frs (envOfC qual scope0 s0.heap.objs.size f cd :: outer) := by
    intro b hb hc hm
    rcases hL b hm with z | z
    · rcases hc with ⟨o0, h0⟩ | hn
      · rw [z] at h0
        exact absurd (Heap.lt_size h0) (Nat.lt_irrefl _)
      · exact hn (hfree b hm)
    · exact hb z
  have ka : ∀ b ob, s'.heap.get? b = some ob → b ∉ frs outer → ((∃ o0, s0.heap.get? b = some o0) ∨ H' b ≠ none) → B.get? b = some ob := fun b ob q hb hc => cov b ob q (old b hb hc) hc
  have z := un_fly hun I'.hok I'.outFree (fun b ob q hb hc => x1.1 b ob (ka b ob q hb hc)) (fun b hb ob q => by
    obtain ⟨_, o', ho', hnf⟩ := I'.funs.mem hb
    rw [q] at ho'
    cases ho'
    exact x2 b ob q hnf)
  refine ⟨a, cls, a0, H', B, rfl, I'.os, I'.bare, z.1, z.2, I'.outFree, x1, fun b ob q hb hc => ?_, hE⟩
  have hs1 : ∃ o1, s'.heap.get? b = some o1 := by
    rcases hc with ⟨o0, h0⟩ | hn
    · exact I'.base.there b o0 h0 (fun z => absurd (show b ∈ ([] : List Addr) from z) (by simp))
    · cases q1 : H' b with
      | none => exact absurd q1 hn
      | some u' => exact (I'.hok b u' q1).ex
  obtain ⟨o1, q1⟩ := hs1
  have h3 := ka b o1 q1 hb hc
  have h4 := x1.1 b o1 h3
  rw [q] at h4
  cases h4
  exact h3
variable {elt tg iter : Expr} {ifs : List Expr} {scope : Scope} {cl : List (Str × Addr)} {N' : List Str} {js : List (Option Nat)} {pos : Pos} {g : TG} {ti : TT} {te : TE} {wi : TI}
end
section
variable {X : Cx} {N' : List Str} {scope : Scope} {cl : List (Str × Addr)} {C : Addr} {s₀ : Shared} {H₀ : Hp} {fp : List Addr} {xe : Value → Shared → Prop} {pos : Pos}
end
def Nx (n i : Nat) (p : Prop) : Prop := ∃ m', m' < n - i ∧ m' = n - (i + 1) ∧ i + 1 ≤ n ∧ p
theorem Nx.mk {n i : Nat} {p : Prop} (h : i < n) (q : p) : Nx n i p := ⟨_, by omega, rfl, h, q⟩
theorem comp_range {n : Nat} {js : List (Option Nat)} {g : TG} {ti : TT} {te : TE} {σ : St} {H1 : Hp} {Q : VK} (Pv : Addr → Nat → List V → St → Hp → Prop)
    (h0 : ∀ D, H1 D = none → Pv D 0 [] (outSt js σ) (upd H1 D (.lst [])))
    (hs : ∀ D (i : Nat) ys τ H, i < n → Pv D i ys τ H → g (.int (i : Int)) τ H fun τ2 H2 => ti τ2 H2 fun b H3 =>
      if b = true then te τ2 H3 fun y H4 => H4 D = some (.lst ys) ∧ ys.length < sizeLine ∧ Nx n i (Pv D (i + 1) (ys ++ [y]) τ2 (upd H4 D (.lst (ys ++ [y]))))
      else Nx n i (Pv D (i + 1) ys τ2 H3))
    (hd : ∀ D ys τ H, Pv D n ys τ H → Q (.ref D) H) : CompW (Itr 0 n) js g ti te σ H1 Q := by
  intro D hD
  refine ⟨fun i m ys τ H => m = n - i ∧ i ≤ n ∧ Pv D i ys τ H, ⟨n, by simp, Nat.zero_le _, h0 D hD⟩, ?_⟩
  rintro i m ys τ H ⟨rfl, hi, p⟩
  by_cases hlt : i < n
  · refine .inr ⟨hlt, fun x H' y => ?_⟩
    obtain ⟨rfl, rfl⟩ := y
    rw [Int.zero_add]
    exact hs D i ys τ _ hlt p
  · have e : i = n := by omega
    subst e
    exact .inl ⟨Nat.le_refl _, hd D ys τ H p⟩
theorem CompOk.free2 {X : Cx} {scope : Scope} {N' : List Str} {js : List (Option Nat)} {x y : Str} {c d : Addr} {nms : List (Str × NameKind)} (kind : scope.kind = .function) (nocell : ∀ y ∈ scope.names, y.2 ≠ .cell)
    (names : ∀ y ∈ scope.names, y.2 = .local → scope.names.lookup y.1 = some .local) (len : js.length = N'.length) (clos : closureFor scope X.env = pure [(x, c), (y, d)]) (cx : X.env.cells.lookup x = some c) (cy : X.env.cells.lookup y = some d)
    (rl : (relabel scope X.env).names = nms) (only : ∀ p ∈ nms, (p.2 = .cell ∨ p.2 = .free) → p.1 = x ∨ p.1 = y)
    (out : ∀ (j i : Nat), js[j]? = some (some i) → (N'[j]? = some x ∧ X.N[i]? = some x) ∨ (N'[j]? = some y ∧ X.N[i]? = some y)) (ex : X.env.scope.names.lookup x = some .cell) (ey : X.env.scope.names.lookup y = some .cell)
    (sx : nms.lookup x = some .cell ∨ nms.lookup x = some .free) (sy : nms.lookup y = some .cell ∨ nms.lookup y = some .free) : CompOk X scope [(x, c), (y, d)] N' js where
  kind := kind
  nocell := nocell
  names := names
  len := len
  clos := clos
  cells := fun z c' h => by
    rw [List.lookup_cons] at h
    split at h
    · rename_i e
      have := eq_of_beq e
      subst this
      cases h
      exact cx
    · rw [List.lookup_cons] at h
      split at h
      · rename_i e
        have := eq_of_beq e
        subst this
        cases h
        exact cy
      · cases h
  has := fun z hz => by
    rw [rl] at hz
    have e : z = x ∨ z = y := by
      rcases hz with h | h
      · exact only _ (PySem.mem_of_lookup h) (.inl rfl)
      · exact only _ (PySem.mem_of_lookup h) (.inr rfl)
    by_cases q : z = x
    · subst q
      exact ⟨c, by rw [List.lookup_cons, beq_self_eq_true]⟩
    · have e := e.resolve_left q
      subst e
      have hb : (z == x) = false := beq_eq_false_iff_ne.mpr q
      exact ⟨d, by rw [List.lookup_cons, hb, List.lookup_cons, beq_self_eq_true]⟩
  out := fun j i h => by
    rcases out j i h with ⟨h1, h2⟩ | ⟨h1, h2⟩
    · exact ⟨x, h1, h2, ex, by rw [rl]; exact sx⟩
    · exact ⟨y, h1, h2, ey, by rw [rl]; exact sy⟩
end L2


set_option Elab.async false
set_option linter.all false
set_option maxRecDepth 100000
namespace L2
open PySem PySem.Spec PyProof.Rows
theorem Room.units1 {k : Nat} {A : Around} (r : Room k A) : A.units + 1 < cLine := by have := r.un; omega
end L2
namespace KD
open PySem L2 KM PyProof.Rows
theorem pair_at {α : Type} {R : α → α → Prop} : ∀ {l : List α} {i j : Nat} {a b : α}, l.Pairwise R → l[i]? = some a → l[j]? = some b → i < j → R a b
  | [], i, j, a, b, _, h, _, _ => by cases h
  | x :: l, 0, j + 1, a, b, h, ha, hb, _ => by
    cases ha
    exact (List.pairwise_cons.mp h).1 b (List.mem_of_getElem? hb)
  | x :: l, i + 1, j + 1, a, b, h, ha, hb, hl => pair_at (List.pairwise_cons.mp h).2 ha hb (by omega)
theorem _root_.List.Nodup.idx {α : Type} {l : List α} (h : l.Nodup) {i j : Nat} {a : α} (hi : l[i]? = some a) (hj : l[j]? = some a) : i = j := by
  rcases Nat.lt_trichotomy i j with q | q | q
  · exact absurd rfl (pair_at h hi hj q)
  · exact q
  · exact absurd rfl (pair_at h hj hi q)
def kvOf (ts : List Tx) (ks : List Nat) (as : List Addr) : List (Key × V) := (ks.zip as).map fun p => (.inr (mkS (ts.getD p.1 [])), V.ref p.2)
structure GrpIn (ts : List Tx) (i : Nat) (H0 H : Hp) (d : Addr) (as : List Addr) : Prop where
  same : Same H0 H
  dn : H0 d = none
  top : H d = some (.dK (kvOf ts (fsE (eqAt ts) i) as))
  len : (fsE (eqAt ts) i).length = as.length
  nd : as.Nodup
  new : ∀ c ∈ as, H0 c = none
  each : ∀ (j : Nat) (c : Addr) (k : Nat), as[j]? = some c → (fsE (eqAt ts) i)[j]? = some k → H c = some (.lst ((clsE (eqAt ts) i k).map vN))
theorem GrpIn.up {ts : List Tx} {i : Nat} {H0 H H' : Hp} {d : Addr} {as : List Addr} (G : GrpIn ts i H0 H d as) (s : Same H H') : GrpIn ts i H0 H' d as :=
  ⟨G.same.trans s, G.dn, s _ _ G.top, G.len, G.nd, G.new, fun j c k h1 h2 => s _ _ (G.each j c k h1 h2)⟩
theorem kvOf_vals (ts : List Tx) : ∀ (ks : List Nat) (as : List Addr), ks.length = as.length → (kvOf ts ks as).map (·.2) = as.map V.ref
  | [], [], _ => rfl
  | k :: ks, c :: as, h => by
    show V.ref c :: (kvOf ts ks as).map (·.2) = _
    rw [kvOf_vals ts ks as (Nat.succ.inj h)]
    rfl
theorem GrpIn.done {ts : List Tx} {H0 H : Hp} {d l : Addr} {as : List Addr} (G : GrpIn ts ts.length H0 H d as) (hl : H l = none) : GroupsAt (upd H l (.lst ((kvOf ts (fsE (eqAt ts) ts.length) as).map (·.2)))) l as (grp ts) := by
  refine ⟨by rw [upd_same, kvOf_vals _ _ _ G.len], by unfold grp grpE; rw [List.length_map, G.len], fun i c g hc hg => ?_⟩
  unfold grp grpE at hg
  rw [List.getElem?_map] at hg
  cases z : (fsE (eqAt ts) ts.length)[i]? with
  | none => rw [z] at hg; cases hg
  | some k =>
    rw [z] at hg
    cases hg
    have ec := G.each i c k hc z
    rw [upd_ne (ne_of_none ec hl)]
    exact ec
end KD


set_option Elab.async false
set_option linter.all false
set_option maxRecDepth 100000
namespace L2
open PySem PySem.Spec PyProof.Rows
section
variable {X : Cx}
theorem all_eq_self {zs : List V} (h : zs.all flatV = true) (n : Nat) (hn : n ≤ zs.length) : (List.range n).all (fun j => eqV (zs.getD j .non) (zs.getD j .non)) = true := by
  rw [List.all_eq_true]
  intro j hj
  have hj := List.mem_range.mp hj
  have hl : j < zs.length := by omega
  refine eqV_self ?_
  rw [List.getD_eq_getElem?_getD, List.getElem?_eq_getElem hl]
  exact List.all_eq_true.mp h _ (List.getElem_mem hl)
end
section
variable {X : Cx} {N' : List Str} {scope : Scope} {cl : List (Str × Addr)} {C : Addr} {s₀ : Shared} {H₀ : Hp} {fp : List Addr}
end
end L2


set_option Elab.async false
set_option linter.all false
set_option maxRecDepth 100000
namespace KM
theorem Abv.step {ab : Ab} {k : Nat} {l : List Nat} (c : Abv ab k l) : ∀ {i x : Nat}, l[i]? = some x → ab[x]? = some (l[i + 1]?) := by
  induction c with
  | root e =>
    intro i x h
    match i, h with
    | 0, h => cases h; exact e
    | i + 1, h => simp at h
  | @up k p l e c ih =>
    intro i x h
    match i, h with
    | 0, h =>
      cases h
      obtain ⟨t, rfl⟩ := c.head
      exact e
    | i + 1, h => exact ih h
theorem Abv.nodup {ab : Ab} {r : Nat} {rk : Nat → Nat} (T : Tree ab r rk) {k : Nat} {l : List Nat} (c : Abv ab k l) : (∀ j ∈ l, rk j ≤ rk k) ∧ l.Nodup := by
  induction c with
  | root e => exact ⟨fun j hj => by rw [List.mem_singleton] at hj; subst hj; exact Nat.le_refl _, by simp⟩
  | @up k p l e c ih =>
    have h := (T.up k p e).2
    refine ⟨fun j hj => ?_, ?_⟩
    · rcases List.mem_cons.mp hj with rfl | hj
      · exact Nat.le_refl _
      · have := ih.1 j hj; omega
    · refine List.nodup_cons.mpr ⟨fun hm => ?_, ih.2⟩
      have := ih.1 k hm
      omega
theorem Abv.len {ab : Ab} {r : Nat} {rk : Nat → Nat} (T : Tree ab r rk) {k : Nat} {l : List Nat} (c : Abv ab k l) : l.length ≤ ab.length := by
  have := (c.nodup T).2.length_le_of_subset (l₂ := List.range ab.length) (fun j hj => List.mem_range.mpr (c.mem_lt j hj))
  rwa [List.length_range] at this
end KM
namespace KD
open PySem L2 KM PyProof.Rows
structure KeysAt (H : Hp) (a : Addr) (ks : List Addr) (kss : List (List Tx)) : Prop where
  top : H a = some (.lst (ks.map V.ref))
  len : ks.length = kss.length
  each : ∀ (i : Nat) (c : Addr) (t : List Tx), ks[i]? = some c → kss[i]? = some t → H c = some (.lst (t.map vT))
theorem KeysAt.up {H H' : Hp} {a : Addr} {ks : List Addr} {kss : List (List Tx)} (k : KeysAt H a ks kss) (s : Same H H') : KeysAt H' a ks kss := ⟨s _ _ k.top, k.len, fun i c t h1 h2 => s _ _ (k.each i c t h1 h2)⟩
theorem GroupsAt.up {H H' : Hp} {l : Addr} {as : List Addr} {gs : List (List Nat)} (k : GroupsAt H l as gs) (s : Same H H') : GroupsAt H' l as gs := ⟨s _ _ k.top, k.len, fun i c t h1 h2 => s _ _ (k.each i c t h1 h2)⟩
theorem KeysAt.at {H : Hp} {a : Addr} {ks : List Addr} {kss : List (List Tx)} (k : KeysAt H a ks kss) {i : Nat} (h : i < kss.length) : ∃ c, ks[i]? = some c ∧ H c = some (.lst (kss[i].map vT)) := by
  have hl : i < ks.length := by rw [k.len]; exact h
  exact ⟨ks[i], List.getElem?_eq_getElem hl, k.each i _ _ (List.getElem?_eq_getElem hl) (List.getElem?_eq_getElem h)⟩
structure LgIn {κ : Type} [DecidableEq κ] (kss : List κ) (i : Nat) (H0 H : Hp) (d : Addr) (as : List Addr) : Prop where
  same : Same H0 H
  dn : H0 d = none
  top : H d = some (.lst (as.map V.ref))
  len : as.length = (fsE (eqAt kss) i).length
  ne : ∀ c ∈ as, c ≠ d
  each : ∀ (j : Nat) (c : Addr) (k : Nat), as[j]? = some c → (fsE (eqAt kss) i)[j]? = some k → H c = some (.lst ((clsE (eqAt kss) kss.length k).map vN))
theorem LgIn.up {κ : Type} [DecidableEq κ] {kss : List κ} {i : Nat} {H0 H H' : Hp} {d : Addr} {as : List Addr} (G : LgIn kss i H0 H d as) (s : Same H H') : LgIn kss i H0 H' d as :=
  ⟨G.same.trans s, G.dn, s _ _ G.top, G.len, G.ne, fun j c k h1 h2 => s _ _ (G.each j c k h1 h2)⟩
theorem LgIn.skip {κ : Type} [DecidableEq κ] {kss : List κ} {i : Nat} {H0 H : Hp} {d : Addr} {as : List Addr} (G : LgIn kss i H0 H d as) (hi : i < kss.length) (h : (clsE (eqAt kss) kss.length i)[0]? ≠ some i) : LgIn kss (i + 1) H0 H d as := by
  have hf : fsE (eqAt kss) (i + 1) = fsE (eqAt kss) i := by
    show (if (List.range i).any (fun j => eqAt kss j i) = true then fsE (eqAt kss) i else fsE (eqAt kss) i ++ [i]) = _
    rw [if_pos]
    cases z : (List.range i).any (fun j => eqAt kss j i) with
    | true => rfl
    | false => exact absurd ((clsE_first (eqvAt kss kss.length) hi).mpr z) h
  exact ⟨G.same, G.dn, G.top, by rw [hf]; exact G.len, G.ne, by rw [hf]; exact G.each⟩
theorem LgIn.take {κ : Type} [DecidableEq κ] {kss : List κ} {i : Nat} {H0 H : Hp} {d : Addr} {as : List Addr} (G : LgIn kss i H0 H d as) (hi : i < kss.length) (h : (clsE (eqAt kss) kss.length i)[0]? = some i) {c : Addr} (hc : H c = some (.lst ((clsE (eqAt kss) kss.length i).map vN))) (hcd : c ≠ d) :
    LgIn kss (i + 1) H0 (upd H d (.lst (as.map V.ref ++ [V.ref c]))) d (as ++ [c]) := by
  have hf : fsE (eqAt kss) (i + 1) = fsE (eqAt kss) i ++ [i] := by
    show (if (List.range i).any (fun j => eqAt kss j i) = true then fsE (eqAt kss) i else fsE (eqAt kss) i ++ [i]) = _
    rw [if_neg (by rw [(clsE_first (eqvAt kss kss.length) hi).mp h]; exact Bool.false_ne_true)]
  refine ⟨same_upd G.same G.dn _, G.dn, by rw [upd_same, List.map_append]; rfl, by rw [hf, List.length_append, List.length_append, G.len]; rfl, fun x hx => ?_, fun j c' k' hc' hk' => ?_⟩
  · rcases List.mem_append.mp hx with hx | hx
    · exact G.ne x hx
    · rw [List.mem_singleton] at hx; subst hx; exact hcd
  · rw [hf] at hk'
    by_cases hj : j < as.length
    · rw [List.getElem?_append_left hj] at hc'
      rw [List.getElem?_append_left (by rw [← G.len]; exact hj)] at hk'
      rw [upd_ne (G.ne c' (List.mem_of_getElem? hc'))]
      exact G.each j c' k' hc' hk'
    · rw [List.getElem?_append_right (by omega)] at hc'
      rw [List.getElem?_append_right (by rw [← G.len]; omega)] at hk'
      have hj0 : j - as.length = 0 := by
        have := (List.getElem?_eq_some_iff.mp hc').1
        rw [List.length_singleton] at this
        omega
      rw [hj0] at hc'
      rw [← G.len, hj0] at hk'
      cases hc'
      cases hk'
      rw [upd_ne hcd]
      exact hc
theorem LgIn.done {κ : Type} [DecidableEq κ] {kss : List κ} {H0 H : Hp} {d : Addr} {as : List Addr} (G : LgIn kss kss.length H0 H d as) : GroupsAt H d as (grp kss) := by
  refine ⟨G.top, by unfold grp grpE; rw [List.length_map, G.len], fun i c g hc hg => ?_⟩
  unfold grp grpE at hg
  rw [List.getElem?_map] at hg
  cases z : (fsE (eqAt kss) kss.length)[i]? with
  | none => rw [z] at hg; cases hg
  | some k =>
    rw [z] at hg
    cases hg
    exact G.each i c k hc z
end KD


set_option Elab.async false
set_option linter.all false
set_option maxRecDepth 100000
namespace L2
open PySem PySem.Spec PyProof.Rows
theorem argBest_le (bt : Nat → Nat → Bool) : ∀ n, argBest bt n ≤ n
  | 0 => Nat.le_refl _
  | n + 1 => by
    have := argBest_le bt n
    show (if bt (n + 1) (argBest bt n) = true then n + 1 else argBest bt n) ≤ n + 1
    split <;> omega
theorem argBest_min (val : Nat → Int) : ∀ n j, j ≤ n → val (argBest (fun i j => decide (val i < val j)) n) ≤ val j
  | 0, j, h => by rw [show j = 0 by omega]; exact Int.le_refl _
  | n + 1, j, h => by
    have ih := argBest_min val n
    show val (if decide (val (n + 1) < val (argBest (fun i j => decide (val i < val j)) n)) = true then n + 1 else argBest (fun i j => decide (val i < val j)) n) ≤ val j
    by_cases c : val (n + 1) < val (argBest (fun i j => decide (val i < val j)) n)
    · rw [if_pos (decide_eq_true c)]
      by_cases e : j = n + 1
      · rw [e]; exact Int.le_refl _
      · have := ih j (by omega); omega
    · rw [if_neg (by rw [decide_eq_false c]; exact Bool.false_ne_true)]
      by_cases e : j = n + 1
      · rw [e]; omega
      · exact ih j (by omega)
theorem argBest_max (val : Nat → Int) : ∀ n j, j ≤ n → val j ≤ val (argBest (fun i j => decide (val i > val j)) n)
  | 0, j, h => by rw [show j = 0 by omega]; exact Int.le_refl _
  | n + 1, j, h => by
    have ih := argBest_max val n
    show val j ≤ val (if decide (val (n + 1) > val (argBest (fun i j => decide (val i > val j)) n)) = true then n + 1 else argBest (fun i j => decide (val i > val j)) n)
    by_cases c : val (n + 1) > val (argBest (fun i j => decide (val i > val j)) n)
    · rw [if_pos (decide_eq_true c)]
      by_cases e : j = n + 1
      · rw [e]; exact Int.le_refl _
      · have := ih j (by omega); omega
    · rw [if_neg (by rw [decide_eq_false c]; exact Bool.false_ne_true)]
      by_cases e : j = n + 1
      · rw [e]; omega
      · exact ih j (by omega)
theorem ints_items : ∀ {ns : List Int} {vs : List Value}, Vals (ns.map V.int) vs → ∃ xs : List (Int × Tok), vs = xs.map (fun p => Value.int p.1 p.2) ∧ xs.map (·.1) = ns
  | [], _, .nil => ⟨[], rfl, rfl⟩
  | n :: ns, v :: vs, .cons r rs => by
    obtain ⟨t, rfl⟩ := r
    obtain ⟨xs, h1, h2⟩ := ints_items rs
    exact ⟨(n, t) :: xs, by rw [h1]; rfl, by rw [← h2]; rfl⟩
theorem numAt_of {xs : List (Int × Tok)} {ns : List Int} (h : xs.map (·.1) = ns) {i : Nat} (hi : i < ns.length) : numAt xs.toArray i = ns[i] := by
  subst h
  rw [List.length_map] at hi
  unfold numAt
  simp [hi]
section
variable {X : Cx}
def rMinL (K : PySem.W.Frag) : List V → Hp → VK → Prop := fun xs H Q => ∃ (p : Addr) (ns : List Int) (m : Int), xs = [.ref p] ∧ SqL K H p (ns.map V.int) ∧ m ∈ ns ∧ (∀ n ∈ ns, m ≤ n) ∧ Q (.int m) H
theorem call_minL (hc : X.calm = true) : CallR X (.builtin "min") (rMinL X.K) := by
  intro pins s σ H xs us Q I r h
  obtain ⟨p, ns, m, rfl, hq, hm, hle, q⟩ := h
  obtain ⟨u, rfl, rx⟩ := vals1 r
  cases rx
  obtain ⟨its, rv, pl, hz⟩ := I.list hq
  obtain ⟨ys, h1, h2⟩ := ints_items rv
  subst h1
  have hlen : ys.length = ns.length := by rw [← h2, List.length_map]
  have hpos : 0 < ns.length := List.length_pos_of_mem hm
  have hl : s.heap.IsList p (intItems ys.toArray) := by
    have := pl.isList
    unfold intItems
    simpa using this
  refine min_intList (xs := ys.toArray) (I.ok.hd hc) hl (by rw [List.size_toArray, hlen]; exact hpos) fun v h' tk hv k => ⟨.int m, H, I.kept k, ?_, q⟩
  have hb := argBest_le (fun i j => decide (numAt ys.toArray i < numAt ys.toArray j)) (ys.toArray.size - 1)
  obtain ⟨t, rfl⟩ := intItems_at hv
  rw [List.size_toArray, hlen] at hb hv ⊢
  have hbl : argBest (fun i j => decide (numAt ys.toArray i < numAt ys.toArray j)) (ns.length - 1) < ns.length := by omega
  have e : numAt ys.toArray (argBest (fun i j => decide (numAt ys.toArray i < numAt ys.toArray j)) (ns.length - 1)) = m := by
    refine Int.le_antisymm ?_ ?_
    · obtain ⟨j, hj⟩ := List.mem_iff_getElem?.mp hm
      obtain ⟨hjl, e⟩ := List.getElem?_eq_some_iff.mp hj
      have := argBest_min (numAt ys.toArray) (ns.length - 1) j (by omega)
      rw [numAt_of h2 hjl, e] at this
      exact this
    · rw [numAt_of h2 hbl]
      exact hle _ (List.getElem_mem _)
  rw [e]
  exact ⟨_, rfl⟩
end
theorem comp_listF {K : PySem.W.Frag} {a : Addr} {xs : List V} {js : List (Option Nat)} {g : TG} {ti : TT} {te : TE} {σ : St} {H1 : Hp} {Q : VK} (Pv : Addr → Nat → List V → St → Hp → Prop)
    (h0 : ∀ D, H1 D = none → Pv D 0 [] (outSt js σ) (upd H1 D (.lst []))) (hl : ∀ D i ys τ H, i ≤ xs.length → Pv D i ys τ H → SqL K H a xs)
    (hs : ∀ D (i : Nat) x ys τ H, xs[i]? = some x → Pv D i ys τ H → g x τ H fun τ2 H2 => ti τ2 H2 fun b H3 =>
      if b = true then te τ2 H3 fun y H4 => H4 D = some (.lst ys) ∧ ys.length < sizeLine ∧ Nx xs.length i (Pv D (i + 1) (ys ++ [y]) τ2 (upd H4 D (.lst (ys ++ [y]))))
      else Nx xs.length i (Pv D (i + 1) ys τ2 H3))
    (hd : ∀ D ys τ H, Pv D xs.length ys τ H → Q (.ref D) H) : CompW (Itl K a) js g ti te σ H1 Q := by
  intro D hD
  refine ⟨fun i m ys τ H => m = xs.length - i ∧ i ≤ xs.length ∧ Pv D i ys τ H, ⟨xs.length, by simp, Nat.zero_le _, h0 D hD⟩, ?_⟩
  rintro i m ys τ H ⟨rfl, hi, p⟩
  have q := hl D i ys τ H hi p
  by_cases hlt : i < xs.length
  · refine .inr ⟨⟨xs, xs[i], q, by simp [hlt]⟩, fun x H' y => ?_⟩
    obtain ⟨e, y⟩ := y
    subst e
    exact hs D i x ys τ _ (y xs q) p
  · have e : i = xs.length := by omega
    subst e
    exact .inl ⟨⟨xs, q, Nat.le_refl _⟩, hd D ys τ H p⟩
end L2


set_option linter.all false
namespace KM
end KM


set_option Elab.async false
set_option linter.all false
set_option maxRecDepth 100000
namespace KD
open PySem L2 KM PyProof.Rows
structure RowsIn (H0 H : Hp) (d : Addr) (as : List Addr) (gs : List (List Nat)) : Prop where
  same : Same H0 H
  dn : H0 d = none
  g : GroupsAt H d as gs
  ne : ∀ c ∈ as, c ≠ d
theorem RowsIn.up {H0 H H' : Hp} {d : Addr} {as : List Addr} {gs : List (List Nat)} (R : RowsIn H0 H d as gs) (s : Same H H') : RowsIn H0 H' d as gs := ⟨R.same.trans s, R.dn, R.g.up s, R.ne⟩
theorem RowsIn.nil {H0 : Hp} {d : Addr} (h : H0 d = none) : RowsIn H0 (upd H0 d (.lst [])) d [] [] := ⟨same_new h _, h, ⟨upd_same, rfl, fun i c g h => (nomatch h)⟩, fun c h => (nomatch h)⟩
theorem RowsIn.snoc {H0 H : Hp} {d : Addr} {as : List Addr} {gs : List (List Nat)} (R : RowsIn H0 H d as gs) {c : Addr} {g : List Nat} (hc : H c = some (.lst (g.map vN))) (hcd : c ≠ d) : RowsIn H0 (upd H d (.lst (as.map V.ref ++ [V.ref c]))) d (as ++ [c]) (gs ++ [g]) := by
  refine ⟨same_upd R.same R.dn _, R.dn, ⟨by rw [upd_same, List.map_append]; rfl, by rw [List.length_append, List.length_append, R.g.len]; rfl, fun j c' g' hc' hg' => ?_⟩, fun x hx => ?_⟩
  · by_cases hj : j < as.length
    · rw [List.getElem?_append_left hj] at hc'
      rw [List.getElem?_append_left (by rw [← R.g.len]; exact hj)] at hg'
      rw [upd_ne (R.ne c' (List.mem_of_getElem? hc'))]
      exact R.g.each j c' g' hc' hg'
    · rw [List.getElem?_append_right (by omega)] at hc'
      rw [List.getElem?_append_right (by rw [← R.g.len]; omega)] at hg'
      have hj0 : j - as.length = 0 := by
        have := (List.getElem?_eq_some_iff.mp hc').1
        rw [List.length_singleton] at this
        omega
      rw [hj0] at hc'
      rw [← R.g.len, hj0] at hg'
      cases hc'
      cases hg'
      rw [upd_ne hcd]
      exact hc
  · rcases List.mem_append.mp hx with hx | hx
    · exact R.ne x hx
    · rw [List.mem_singleton] at hx; subst hx; exact hcd
end KD


set_option Elab.async false
set_option linter.all false
set_option maxRecDepth 100000
namespace PySem
section
variable {prog : Program} {w : World} {A : Around} {E : Value → Shared → Prop} {s : Shared} {l : Addr} {xs : Array (Int × Tok)}
theorem iter_intTuple {Q : Value → Shared → Prop} (hl : s.heap.IsTuple l (intItems xs))
    (h : ∀ s₂ : Shared, s₂ = { s with heap := s.heap.push { cls := .type "tuple_iterator", data := .fields #[.ref l, .int 0 0] } } →
      (s₂.heap.IsTupleIter s.heap.objs.size l 0 ∧ s₂.heap.IsTuple l (intItems xs)) → (∀ b ∈ [s.heap.objs.size, l], b < s₂.heap.objs.size) → l ≠ s.heap.objs.size → Q (.ref s.heap.objs.size) s₂) :
    wpAny (model prog w) A (pyIter (.ref l)) Q E s := by
  have hlt : l < s.heap.objs.size := by obtain ⟨_, e, _⟩ := hl; exact Heap.lt_size e
  refine wpAny_pyIter_tuple hl (h _ rfl ⟨⟨_, Heap.get?_push_size _ rfl, rfl, rfl⟩, hl.at fun o e => Heap.get?_push_of_some _ e⟩ (fun b hb => ?_) (Nat.ne_of_lt hlt))
  show b < (s.heap.push _).objs.size
  rw [Heap.size_push]
  rcases List.mem_cons.mp hb with rfl | hb
  · exact Nat.lt_succ_self _
  · rcases List.mem_cons.mp hb with rfl | hb
    · exact Nat.lt_succ_of_lt hlt
    · cases hb
theorem oldT_kept {h' : Heap} (hk : ∀ b o, b ∉ [s.heap.objs.size] → (s.heap.push { cls := .type "tuple_iterator", data := .fields #[.ref l, .int 0 0] }).get? b = some o → h'.get? b = some o) :
    ∀ b o, s.heap.get? b = some o → h'.get? b = some o := fun b o e => by
  refine hk b o (fun hm => ?_) (Heap.get?_push_of_some _ e)
  rcases List.mem_cons.mp hm with e1 | hm
  · exact absurd (e1 ▸ Heap.lt_size e) (Nat.lt_irrefl _)
  · cases hm
theorem max_intTuple {Q : Value → Shared → Prop} (hh : A.handled = none) (hl : s.heap.IsTuple l (intItems xs)) (hne : 0 < xs.size)
    (h : ∀ v h' tk, (intItems xs)[argBest (fun i j => decide (numAt xs i > numAt xs j)) (xs.size - 1)]? = some v → (∀ b o, s.heap.get? b = some o → h'.get? b = some o) → Q v { s with heap := h', toks := tk }) :
    wpAny (model prog w) A (call (.builtin "max") [.ref l]) Q E s := by
  refine call_max_walk (iter_intTuple hl fun s₂ e st hfp hlI => ?_)
  subst e
  refine ⟨_, _, _, _, _, _, _, rfl, Walks.tuple (A := A.in1) hh _ l hlI (intItems xs), st, hfp, by simpa [intItems] using hne, CmpOf.ints_gt (numAt xs) (fun _ _ => intItems_at), fun v h' tk hP hk => ?_⟩
  exact h v h' tk (by simpa [intItems] using hP) (oldT_kept hk)
theorem min_intTuple {Q : Value → Shared → Prop} (hh : A.handled = none) (hl : s.heap.IsTuple l (intItems xs)) (hne : 0 < xs.size)
    (h : ∀ v h' tk, (intItems xs)[argBest (fun i j => decide (numAt xs i < numAt xs j)) (xs.size - 1)]? = some v → (∀ b o, s.heap.get? b = some o → h'.get? b = some o) → Q v { s with heap := h', toks := tk }) :
    wpAny (model prog w) A (call (.builtin "min") [.ref l]) Q E s := by
  refine call_min_walk (iter_intTuple hl fun s₂ e st hfp hlI => ?_)
  subst e
  refine ⟨_, _, _, _, _, _, _, rfl, Walks.tuple (A := A.in1) hh _ l hlI (intItems xs), st, hfp, by simpa [intItems] using hne, CmpOf.ints_lt (numAt xs) (fun _ _ => intItems_at), fun v h' tk hP hk => ?_⟩
  exact h v h' tk (by simpa [intItems] using hP) (oldT_kept hk)
end
end PySem
namespace L2
open PySem PySem.Spec PyProof.Rows
section
variable {X : Cx}
def rMinT (K : PySem.W.Frag) : List V → Hp → VK → Prop := fun xs H Q => ∃ (p : Addr) (ns : List Int) (m : Int), xs = [.ref p] ∧ SqT K H p (ns.map V.int) ∧ m ∈ ns ∧ (∀ n ∈ ns, m ≤ n) ∧ Q (.int m) H
def rMaxT (K : PySem.W.Frag) : List V → Hp → VK → Prop := fun xs H Q => ∃ (p : Addr) (ns : List Int) (m : Int), xs = [.ref p] ∧ SqT K H p (ns.map V.int) ∧ m ∈ ns ∧ (∀ n ∈ ns, n ≤ m) ∧ Q (.int m) H
theorem call_minT (hc : X.calm = true) : CallR X (.builtin "min") (rMinT X.K) := by
  intro pins s σ H xs us Q I r h
  obtain ⟨p, ns, m, rfl, hq, hm, hle, q⟩ := h
  obtain ⟨u, rfl, rx⟩ := vals1 r
  cases rx
  obtain ⟨its, rv, pl, hz⟩ := I.tuple hq
  obtain ⟨ys, h1, h2⟩ := ints_items rv
  subst h1
  have hlen : ys.length = ns.length := by rw [← h2, List.length_map]
  have hpos : 0 < ns.length := List.length_pos_of_mem hm
  have hl : s.heap.IsTuple p (intItems ys.toArray) := by
    have : s.heap.IsTuple p (ys.map fun p => Value.int p.1 p.2).toArray := pl
    unfold intItems
    simpa using this
  refine min_intTuple (xs := ys.toArray) (I.ok.hd hc) hl (by rw [List.size_toArray, hlen]; exact hpos) fun v h' tk hv k => ⟨.int m, H, I.kept k, ?_, q⟩
  have hb := argBest_le (fun i j => decide (numAt ys.toArray i < numAt ys.toArray j)) (ys.toArray.size - 1)
  obtain ⟨t, rfl⟩ := intItems_at hv
  rw [List.size_toArray, hlen] at hb hv ⊢
  have hbl : argBest (fun i j => decide (numAt ys.toArray i < numAt ys.toArray j)) (ns.length - 1) < ns.length := by omega
  have e : numAt ys.toArray (argBest (fun i j => decide (numAt ys.toArray i < numAt ys.toArray j)) (ns.length - 1)) = m := by
    refine Int.le_antisymm ?_ ?_
    · obtain ⟨j, hj⟩ := List.mem_iff_getElem?.mp hm
      obtain ⟨hjl, e⟩ := List.getElem?_eq_some_iff.mp hj
      have := argBest_min (numAt ys.toArray) (ns.length - 1) j (by omega)
      rw [numAt_of h2 hjl, e] at this
      exact this
    · rw [numAt_of h2 hbl]
      exact hle _ (List.getElem_mem _)
  rw [e]
  exact ⟨_, rfl⟩
theorem call_maxT (hc : X.calm = true) : CallR X (.builtin "max") (rMaxT X.K) := by
  intro pins s σ H xs us Q I r h
  obtain ⟨p, ns, m, rfl, hq, hm, hle, q⟩ := h
  obtain ⟨u, rfl, rx⟩ := vals1 r
  cases rx
  obtain ⟨its, rv, pl, hz⟩ := I.tuple hq
  obtain ⟨ys, h1, h2⟩ := ints_items rv
  subst h1
  have hlen : ys.length = ns.length := by rw [← h2, List.length_map]
  have hpos : 0 < ns.length := List.length_pos_of_mem hm
  have hl : s.heap.IsTuple p (intItems ys.toArray) := by
    have : s.heap.IsTuple p (ys.map fun p => Value.int p.1 p.2).toArray := pl
    unfold intItems
    simpa using this
  refine max_intTuple (xs := ys.toArray) (I.ok.hd hc) hl (by rw [List.size_toArray, hlen]; exact hpos) fun v h' tk hv k => ⟨.int m, H, I.kept k, ?_, q⟩
  have hb := argBest_le (fun i j => decide (numAt ys.toArray i > numAt ys.toArray j)) (ys.toArray.size - 1)
  obtain ⟨t, rfl⟩ := intItems_at hv
  rw [List.size_toArray, hlen] at hb hv ⊢
  have hbl : argBest (fun i j => decide (numAt ys.toArray i > numAt ys.toArray j)) (ns.length - 1) < ns.length := by omega
  have e : numAt ys.toArray (argBest (fun i j => decide (numAt ys.toArray i > numAt ys.toArray j)) (ns.length - 1)) = m := by
    refine Int.le_antisymm ?_ ?_
    · rw [numAt_of h2 hbl]
      exact hle _ (List.getElem_mem _)
    · obtain ⟨j, hj⟩ := List.mem_iff_getElem?.mp hm
      obtain ⟨hjl, e⟩ := List.getElem?_eq_some_iff.mp hj
      have := argBest_max (numAt ys.toArray) (ns.length - 1) j (by omega)
      rw [numAt_of h2 hjl, e] at this
      exact this
  rw [e]
  exact ⟨_, rfl⟩
theorem rc_tup {A : Around} {pins : List (Addr × Obj)} {σ : St} {H : Hp} {s : Shared} (I : Inv X pins σ H s) {c d : Addr} {xs ys : List V} (hc : H c = some (.tup xs)) (hd : H d = some (.tup ys)) (f1 : xs.all flatV = true) (f2 : ys.all flatV = true) (hu : A.units < cLine) : SeqAt.EqAt A s (.ref c) (.ref d) (eqL xs ys) := by
  by_cases e : c = d
  · subst e
    rw [hc] at hd
    cases hd
    rw [show eqL xs xs = true from by
      unfold eqL
      rw [show (xs.length == xs.length) = true from beq_iff_eq.mpr rfl, Bool.true_and]
      exact all_eq_self f1 _ (Nat.le_refl _)]
    exact SeqAt.EqAt.same _
  · obtain ⟨its, r, pl, _⟩ := I.tuple (SqT.of hc)
    obtain ⟨its2, r2, pl2, _⟩ := I.tuple (SqT.of hd)
    have l1 := r.length
    have l2 := r2.length
    refine SeqAt.EqAt.of_refs e ?_
    have := SeqAt.RcAt.tuples (A := A) pl pl2 hu (eq_each (A := A.in1) r r2 f1 f2)
    have e2 : ((List.range (min its.toArray.size its2.toArray.size)).all (fun j => eqV (xs.getD j .non) (ys.getD j .non)) && its.toArray.size == its2.toArray.size) = eqL xs ys := by
      unfold eqL
      rw [List.size_toArray, List.size_toArray, ← l1, ← l2]
      by_cases hs : xs.length = ys.length
      · rw [hs, Nat.min_self, Bool.and_comm]
      · rw [show (xs.length == ys.length) = false from beq_eq_false_iff_ne.mpr hs, Bool.and_false, Bool.false_and]
    rw [e2] at this
    exact this
structure TupsAt (H : Hp) (p : Addr) (rs : List Addr) (yss : List (List V)) : Prop where
  top : H p = some (.lst (rs.map V.ref))
  len : rs.length = yss.length
  each : ∀ (j : Nat) (c : Addr) (ys : List V), rs[j]? = some c → yss[j]? = some ys → H c = some (.tup ys)
  flat : ∀ ys ∈ yss, ys.all flatV = true
def rEqTr (K : PySem.W.Frag) : R2 := fun x y H Q => ∃ t t' n L L' rs rs' yss, x = .ref t ∧ y = .ref t' ∧ H t = some (.tup [.int n, .ref L]) ∧ H t' = some (.tup [.int n, .ref L']) ∧ TupsAt H L rs yss ∧ TupsAt H L' rs' yss ∧ Q (.bl true) H
theorem eqL_same {xs : List V} (h : xs.all flatV = true) : eqL xs xs = true := by
  unfold eqL
  rw [show (xs.length == xs.length) = true from beq_iff_eq.mpr rfl, Bool.true_and]
  exact all_eq_self h _ (Nat.le_refl _)
theorem op_eqTr (hu : X.A.units + 2 < cLine) : OpR X (compareOp .Eq) (rEqTr X.K) := by
  intro pins s σ H x y v u Q I rx ry h
  obtain ⟨t, t', n, L, L', rs, rs', yss, rfl, rfl, ht, ht', G, G', q⟩ := h
  cases rx
  cases ry
  obtain ⟨its, r, pl, _⟩ := I.tuple (SqT.of (K := X.K) ht)
  obtain ⟨its2, r2, pl2, _⟩ := I.tuple (SqT.of (K := X.K) ht')
  cases r with
  | cons ra rb =>
    cases rb with
    | cons rb rn =>
      cases rn
      cases r2 with
      | cons ra2 rb2 =>
        cases rb2 with
        | cons rb2 rn2 =>
          cases rn2
          obtain ⟨k1, rfl⟩ := ra
          obtain ⟨k2, rfl⟩ := ra2
          cases rb
          cases rb2
          refine SeqAt.eq_tupleAt (e := fun _ => true) pl pl2 (by omega) (fun j h1 h2 => ?_) ⟨.bl true, H, I, ?_, q⟩
          · have hj : j = 0 ∨ j = 1 := by
              rw [List.size_toArray] at h1
              simp only [List.length_cons, List.length_nil] at h1
              omega
            rcases hj with rfl | rfl
            · have := SeqAt.EqAt.int_int (A := X.A.in1) (s := s) n k1 n k2
              rw [show (n == n) = true from beq_iff_eq.mpr rfl] at this
              exact this
            · show SeqAt.EqAt X.A.in1 s (.ref L) (.ref L') true
              by_cases e : L = L'
              · subst e
                exact SeqAt.EqAt.same _
              · obtain ⟨i3, r3, p3, _⟩ := I.list (SqL.of (K := X.K) G.top)
                obtain ⟨i4, r4, p4, _⟩ := I.list (SqL.of (K := X.K) G'.top)
                have l3 := r3.length
                have l4 := r4.length
                rw [List.length_map] at l3 l4
                have gl := G.len
                have gl' := G'.len
                refine SeqAt.EqAt.of_refs e ?_
                have := SeqAt.RcAt.lists (A := X.A.in1) (e := fun _ => true) p3.isList p4.isList (by rw [List.size_toArray, List.size_toArray]; omega) (by show X.A.units + 1 < cLine; omega) (fun j h1 h2 => ?_)
                · rw [show ((List.range i3.toArray.size).all fun _ => true) = true from by rw [List.all_eq_true]; intro _ _; rfl] at this
                  exact this
                · rw [List.size_toArray] at h1 h2
                  have hj : j < rs.length := by omega
                  have hj' : j < rs'.length := by omega
                  obtain ⟨u1, e1, q1⟩ := r3.get (show (rs.map V.ref)[j]? = some (V.ref rs[j]) by rw [List.getElem?_map, List.getElem?_eq_getElem hj]; rfl)
                  obtain ⟨u2, e2, q2⟩ := r4.get (show (rs'.map V.ref)[j]? = some (V.ref rs'[j]) by rw [List.getElem?_map, List.getElem?_eq_getElem hj']; rfl)
                  have e3 : i3.toArray[j] = u1 := by
                    rw [List.getElem?_eq_getElem h1] at e1
                    simpa using Option.some.inj e1
                  have e4 : i4.toArray[j] = u2 := by
                    rw [List.getElem?_eq_getElem h2] at e2
                    simpa using Option.some.inj e2
                  rw [e3, e4]
                  obtain rfl : u1 = Value.ref rs[j] := q1
                  obtain rfl : u2 = Value.ref rs'[j] := q2
                  have hjy : j < yss.length := by omega
                  have hy := List.getElem?_eq_getElem hjy
                  have fl := G.flat _ (List.getElem_mem hjy)
                  have := rc_tup (A := X.A.in1.in1) I (G.each j _ _ (List.getElem?_eq_getElem hj) hy) (G'.each j _ _ (List.getElem?_eq_getElem hj') hy) fl fl (by show X.A.units + 1 + 1 < cLine; omega)
                  rw [eqL_same fl] at this
                  exact this
          · rfl
end
theorem TupsAt.up {H H' : Hp} {p : Addr} {rs : List Addr} {yss : List (List V)} (G : TupsAt H p rs yss) (s : Same H H') : TupsAt H' p rs yss := ⟨s _ _ G.top, G.len, fun j c ys h1 h2 => s _ _ (G.each j c ys h1 h2), G.flat⟩
end L2


set_option Elab.async false
set_option linter.all false
set_option maxRecDepth 100000
namespace KD
open PySem L2 KM PyProof.Rows
abbrev LI := List (Int × Int)
def vP (p : Int × Int) : List V := [.int p.1, .int p.2]
def toL (ls : Ln) : LI := ls.map fun p => ((p.1 : Int), (p.2 : Int))
def ofL (li : LI) : Ln := li.map fun p => (p.1.toNat, p.2.toNat)
theorem ofL_toL (ls : Ln) : ofL (toL ls) = ls := by
  unfold ofL toL
  rw [List.map_map]
  have : ((fun p : Int × Int => (p.1.toNat, p.2.toNat)) ∘ fun p : Nat × Nat => ((p.1 : Int), (p.2 : Int))) = id := by funext p; rfl
  rw [this, List.map_id]
theorem toL_len (ls : Ln) : (toL ls).length = ls.length := List.length_map _
abbrev LinesAt (H : Hp) (L : Addr) (ps : List Addr) (li : LI) : Prop := TupsAt H L ps (li.map vP)
theorem LinesAt.at {H : Hp} {L : Addr} {ps : List Addr} {li : LI} (G : LinesAt H L ps li) {i : Nat} (h : i < li.length) : ∃ c, ps[i]? = some c ∧ H c = some (.tup (vP li[i])) := by
  have hl : i < ps.length := by rw [G.len, List.length_map]; exact h
  refine ⟨ps[i], List.getElem?_eq_getElem hl, G.each i _ _ (List.getElem?_eq_getElem hl) ?_⟩
  rw [List.getElem?_map, List.getElem?_eq_getElem h]
  rfl
structure TreeAt (H : Hp) (t L : Addr) (ps : List Addr) (c : Int) (li : LI) : Prop where
  tup : H t = some (.tup [.int c, .ref L])
  ls : LinesAt H L ps li
theorem TreeAt.up {H H' : Hp} {t L : Addr} {ps : List Addr} {c : Int} {li : LI} (G : TreeAt H t L ps c li) (s : Same H H') : TreeAt H' t L ps c li := ⟨s _ _ G.tup, G.ls.up s⟩
structure ValidL (c : Int) (li : LI) : Prop where
  len : c = ((li.length : Nat) : Int) + 1
  lt : ∀ p ∈ li, (0 ≤ p.1 ∧ p.1 < c) ∧ 0 ≤ p.2 ∧ p.2 < c
theorem ValidL.ofL {c : Int} {li : LI} (h : ValidL c li) : ∀ p ∈ ofL li, p.1 < li.length + 1 ∧ p.2 < li.length + 1 := fun p hp => by
  obtain ⟨q, hq, rfl⟩ := List.mem_map.mp hp
  have := h.lt q hq
  have := h.len
  show q.1.toNat < _ ∧ q.2.toNat < _
  omega
def FreeL (c : Int) (li : LI) : Prop := ValidL c li ∧ IsFree (li.length + 1) (ofL li)
theorem freeL_of {n : Nat} {ls : Ln} (F : IsFree n ls) : FreeL (n : Int) (toL ls) ∧ (toL ls).length + 1 = n := by
  obtain ⟨ab, r, rk, T, hn, f⟩ := id F
  have hl := f.len T
  have e : (toL ls).length + 1 = n := by rw [toL_len]; omega
  refine ⟨⟨⟨by omega, fun p hp => ?_⟩, by rw [e, ofL_toL]; exact F⟩, e⟩
  obtain ⟨q, hq, rfl⟩ := List.mem_map.mp hp
  have := F.lt hq
  show (0 ≤ (q.1 : Int) ∧ (q.1 : Int) < n) ∧ 0 ≤ (q.2 : Int) ∧ (q.2 : Int) < n
  omega
structure LsAt (H0 H : Hp) (b : Addr) (bs : List Addr) (f : Nat → List Nat) : Prop where
  same : Same H0 H
  top : H b = some (.lst (bs.map V.ref))
  nd : bs.Nodup
  new : ∀ c ∈ bs, H0 c = none
  bn : H0 b = none
  each : ∀ (k : Nat) (c : Addr), bs[k]? = some c → H c = some (.lst ((f k).map vN))
theorem LsAt.up {H0 H H' : Hp} {b : Addr} {bs : List Addr} {f : Nat → List Nat} (G : LsAt H0 H b bs f) (s : Same H H') : LsAt H0 H' b bs f := ⟨G.same.trans s, s _ _ G.top, G.nd, G.new, G.bn, fun k c h => s _ _ (G.each k c h)⟩
theorem LsAt.ne {H0 H : Hp} {b : Addr} {bs : List Addr} {f : Nat → List Nat} (G : LsAt H0 H b bs f) {k : Nat} {c : Addr} (h : bs[k]? = some c) : b ≠ c := fun z => by
  have e := G.each k c h
  rw [← z, G.top] at e
  have e := HO.lst.inj (Option.some.inj e)
  cases bs with
  | nil => cases h
  | cons x xs =>
    cases q : f k with
    | nil => rw [q] at e; cases e
    | cons y ys => rw [q] at e; cases (List.cons.inj e).1
theorem LsAt.push {H0 H : Hp} {b : Addr} {bs : List Addr} {f : Nat → List Nat} (G : LsAt H0 H b bs f) {k x : Nat} {c : Addr} (h : bs[k]? = some c) : LsAt H0 (upd H c (.lst ((f k).map vN ++ [vN x]))) b bs (fun j => if j = k then f j ++ [x] else f j) := by
  refine ⟨same_upd G.same (G.new c (List.mem_of_getElem? h)) _, by rw [upd_ne (G.ne h)]; exact G.top, G.nd, G.new, G.bn, fun j d hd => ?_⟩
  by_cases e : j = k
  · subst e
    rw [h] at hd
    cases hd
    rw [upd_same, if_pos rfl, List.map_append]
    rfl
  · rw [if_neg e, upd_ne (fun z => e (G.nd.idx (by rw [hd, z]) h))]
    exact G.each j d hd
theorem near_snoc (ls : Ln) (p : Nat × Nat) (k : Nat) : near (ls ++ [p]) k = near ls k ++ nb k p := by
  unfold near
  rw [List.flatMap_append]
  simp
theorem near_two (ls : Ln) (a b k : Nat) : near (ls ++ [(a, b)]) k = if k = b then (if k = a then near ls k ++ [b] else near ls k) ++ [a] else (if k = a then near ls k ++ [b] else near ls k) := by
  rw [near_snoc]
  unfold nb
  by_cases h1 : k = a
  · by_cases h2 : k = b
    · rw [if_pos h2, if_pos h1, if_pos h1.symm, if_pos h2.symm, List.append_assoc]
    · rw [if_neg h2, if_pos h1, if_pos h1.symm, if_neg (fun z => h2 z.symm), List.append_nil]
  · by_cases h2 : k = b
    · rw [if_pos h2, if_neg h1, if_neg (fun z => h1 z.symm), if_pos h2.symm]
      rfl
    · rw [if_neg h2, if_neg h1, if_neg (fun z => h1 z.symm), if_neg (fun z => h2 z.symm), List.append_nil, List.append_nil]
structure BesideAt (H : Hp) (b : Addr) (bs : List Addr) (n : Nat) (ls : Ln) : Prop where
  top : H b = some (.lst (bs.map V.ref))
  len : bs.length = n
  each : ∀ (k : Nat) (c : Addr), bs[k]? = some c → H c = some (.lst ((near ls k).map vN))
theorem BesideAt.up {H H' : Hp} {b : Addr} {bs : List Addr} {n : Nat} {ls : Ln} (G : BesideAt H b bs n ls) (s : Same H H') : BesideAt H' b bs n ls := ⟨s _ _ G.top, G.len, fun k c h => s _ _ (G.each k c h)⟩
def spBeside (C : Addr) : Sp := fun vs H Q E => ∃ (t L : Addr) (ps : List Addr) (c : Int) (li : LI), vs = [.ref t] ∧ TreeAt H t L ps c li ∧ li.length ≤ 60 ∧
  (ValidL c li → ∀ (b : Addr) (bs : List Addr) (H' : Hp), Same H H' → BesideAt H' b bs (li.length + 1) (ofL li) → Q (.ref b) H') ∧ (¬ ValidL c li → ∀ H', Same H H' → E (.ref C) none H')
def kvW (ord : List Nat) (pa : Nat → Option Nat) : List (Key × V) := ord.map fun k : Nat => (.inl (k : Int), vO (pa k))
def spWalked (C : Addr) : Sp := fun vs H Q E => ∃ (b : Addr) (bs : List Addr) (n v : Nat) (ls : Ln), vs = [.ref b, vN v] ∧ BesideAt H b bs n ls ∧ v < n ∧ n ≤ 100 ∧ ls.length ≤ 100 ∧ (∀ p ∈ ls, p.1 < n ∧ p.2 < n) ∧
  (∀ (d : Addr) (ord : List Nat) (pa : Nat → Option Nat) (H' : Hp), Same H H' → H d = none → H' d = some (.dK (kvW ord pa)) → GB ls n v ord pa ord.length → ord.length = n → Q (.ref d) H') ∧
  (∀ (ord : List Nat) (pa : Nat → Option Nat) (H' : Hp), Same H H' → GB ls n v ord pa ord.length → ord.length ≠ n → E (.ref C) none H')
def spHung (C : Addr) : Sp := fun vs H Q E => ∃ (b : Addr) (bs : List Addr) (n v : Nat) (ls : Ln), vs = [.ref b, vN v] ∧ BesideAt H b bs n ls ∧ v < n ∧ n ≤ 100 ∧ ls.length + 1 = n ∧ (∀ p ∈ ls, p.1 < n ∧ p.2 < n) ∧
  (IsFree n ls → ∀ (p : Addr) (H' : Hp), Same H H' → H p = none → H' p = some (.lst ((At n ls v).map vO)) → Q (.ref p) H') ∧ (¬ IsFree n ls → ∀ H', Same H H' → E (.ref C) none H')
def spRootedAt (C : Addr) : Sp := fun vs H Q E => ∃ (t L : Addr) (ps : List Addr) (c : Int) (li : LI) (v : Nat), vs = [.ref t, vN v] ∧ TreeAt H t L ps c li ∧ li.length ≤ 60 ∧ v < li.length + 1 ∧
  (FreeL c li → ∀ (p : Addr) (H' : Hp), Same H H' → H p = none → H' p = some (.lst ((At (li.length + 1) (ofL li) v).map vO)) → Q (.ref p) H') ∧ (¬ FreeL c li → ∀ H', Same H H' → E (.ref C) none H')
theorem _root_.KM.GB.free_iff {ls : Ln} {n v : Nat} {ord : List Nat} {pa : Nat → Option Nat} (B : GB ls n v ord pa ord.length) (hn : ls.length + 1 = n) (hv : v < n) : IsFree n ls ↔ ord.length = n := by
  constructor
  · rintro ⟨ab, r, rk, T, rfl, f⟩
    exact B.whole T f
  · intro h
    exact isFree_of (B.rooted h hn)
theorem _root_.KM.GB.hung_at {ls : Ln} {n v : Nat} {ord : List Nat} {pa : Nat → Option Nat} (B : GB ls n v ord pa ord.length) (hn : ls.length + 1 = n) (hv : v < n) (hw : ord.length = n) : hung n pa = At n ls v := (at_eq (isFree_of (B.rooted hw hn)) hv (B.rooted hw hn)).symm
theorem kvW_none {ord : List Nat} {pa : Nat → Option Nat} {c : Nat} : valV (kvW ord pa) (.inl (c : Int)) = none ↔ c ∉ ord := by
  induction ord with
  | nil => exact ⟨fun _ h => (nomatch h), fun _ => rfl⟩
  | cons k ord ih =>
    have e : kvW (k :: ord) pa = (.inl (k : Int), vO (pa k)) :: kvW ord pa := rfl
    rw [e]
    by_cases h : k = c
    · subst h
      rw [valV_pos rfl]
      exact ⟨fun z => (nomatch z), fun z => absurd List.mem_cons_self z⟩
    · rw [valV_neg (fun z => h (by have := Sum.inl.inj z; omega)), ih, List.mem_cons]
      exact ⟨fun z y => y.elim (fun w => h w.symm) z, fun z y => z (.inr y)⟩
theorem kvW_some {ord : List Nat} {pa : Nat → Option Nat} {c : Nat} (h : c ∈ ord) : valV (kvW ord pa) (.inl (c : Int)) = some (vO (pa c)) := by
  induction ord with
  | nil => cases h
  | cons k ord ih =>
    have e : kvW (k :: ord) pa = (.inl (k : Int), vO (pa k)) :: kvW ord pa := rfl
    rw [e]
    by_cases hk : k = c
    · subst hk
      rw [valV_pos rfl]
    · rw [valV_neg (fun z => hk (by have := Sum.inl.inj z; omega))]
      exact ih ((List.mem_cons.mp h).resolve_left fun z => hk z.symm)
theorem kvW_meet {ord : List Nat} {pa : Nat → Option Nat} {c k : Nat} (h : c ∉ ord) : putK (kvW ord pa) (.inl (c : Int)) (vN k) = kvW (ord ++ [c]) (fun j => if j = c then some k else pa j) := by
  rw [putK_new _ (kvW_none.mpr h)]
  unfold kvW
  rw [List.map_append]
  congr 1
  · refine List.map_congr_left fun j hj => ?_
    show (_, vO (pa j)) = (_, vO (if j = c then some k else pa j))
    rw [if_neg (fun z : j = c => h (by rw [← z]; exact hj))]
  · show [(_, vN k)] = [(_, vO (if c = c then some k else pa c))]
    rw [if_pos rfl]
    rfl
theorem near_len (ls : Ln) (k : Nat) : (near ls k).length ≤ 2 * ls.length := by
  unfold near
  induction ls with
  | nil => exact Nat.zero_le _
  | cons p ls ih =>
    rw [List.flatMap_cons, List.length_append, List.length_cons]
    have : (nb k p).length ≤ 2 := by
      unfold nb
      rw [List.length_append]
      split <;> split <;> simp
    omega
end KD


set_option linter.all false
namespace KM
def renum (ab : Ab) (nm : List Nat) : Ab := (List.range ab.length).map fun k => (ab[nm.idxOf k]?.getD none).map fun p => nm.getD p 0
theorem renum_ok {ab : Ab} {r : Nat} {rk : Nat → Nat} {nm : List Nat} (T : Tree ab r rk) (hp : nm.Perm (List.range ab.length)) : Renum ab (renum ab nm) nm where
  len := by unfold renum; rw [List.length_map, List.length_range]
  perm := hp
  par := fun j p h => (T.up j p h).1
  at' := fun j k h => by
    have hk : k < ab.length := List.mem_range.mp (hp.mem_iff.mp (List.mem_of_getElem? h))
    have nd : nm.Nodup := hp.nodup_iff.mpr List.nodup_range
    have hj : nm.idxOf k = j := by
      obtain ⟨hj, e⟩ := List.getElem?_eq_some_iff.mp h
      rw [← e]
      exact nd.idxOf_getElem j hj
    unfold renum
    rw [List.getElem?_map, List.getElem?_range hk]
    show some ((ab[nm.idxOf k]?.getD none).map fun p => nm.getD p 0) = _
    rw [hj]
def Joins (ls ls' : Ln) (mt : List Nat) : Prop := ∀ p ∈ ls, mt.getD p.2 0 ∈ near ls' (mt.getD p.1 0)
theorem Joins.near {ls ls' : Ln} {mt : List Nat} (J : Joins ls ls' mt) {k c : Nat} (h : c ∈ near ls k) : mt.getD c 0 ∈ KM.near ls' (mt.getD k 0) := by
  rcases mem_near.mp h with z | z
  · exact J _ z
  · exact near_symm (J _ z)
theorem perm_lt {mt : List Nat} {n : Nat} (hp : mt.Perm (List.range n)) {v : Nat} (hv : v < n) : mt[v]? = some (mt.getD v 0) ∧ mt.getD v 0 < n := by
  have hl : v < mt.length := by rw [hp.length_eq, List.length_range]; exact hv
  have e : mt[v]? = some (mt.getD v 0) := by rw [List.getD_eq_getElem?_getD, List.getElem?_eq_getElem hl]; rfl
  exact ⟨e, List.mem_range.mp (hp.mem_iff.mp (List.mem_of_getElem? e))⟩
section
variable {n : Nat} {ls ls' : Ln}
theorem IsFree.len (F : IsFree n ls) : ls.length + 1 = n := by
  obtain ⟨ab, r, rk, T, rfl, f⟩ := F
  exact f.len T
theorem joins_iff (F : IsFree n ls) (F' : IsFree n ls') {mt : List Nat} (hp : mt.Perm (List.range n)) {v : Nat} (hv : v < n) : Joins ls ls' mt ↔ Renum (At n ls v) (At n ls' (mt.getD v 0)) mt := by
  obtain ⟨hal, ⟨rk, T⟩, f⟩ := at_spec F hv
  obtain ⟨ev, hw⟩ := perm_lt hp hv
  constructor
  · intro J
    have R := renum_ok (nm := mt) T (by rw [hal]; exact hp)
    have T' := R.tree T
    have hl' : (renum (At n ls v) mt).length = n := R.len.trans hal
    have hfr : FreeOf (renum (At n ls v) mt) ls' := T'.freeOf (by rw [hl']; exact F'.len) fun k p h => by
      have hk : k < n := by rw [← hl']; exact (List.getElem?_eq_some_iff.mp h).1
      obtain ⟨j, hj⟩ := List.mem_iff_getElem?.mp (hp.mem_iff.mpr (List.mem_range.mpr hk))
      have e := R.at' j k hj
      rw [h] at e
      cases q : (At n ls v)[j]?.getD none with
      | none => rw [q] at e; cases Option.some.inj e
      | some c =>
        rw [q] at e
        have e2 : p = mt.getD c 0 := Option.some.inj (Option.some.inj e)
        have hjc : (At n ls v)[j]? = some (some c) := by
          cases z : (At n ls v)[j]? with
          | none => rw [z] at q; cases q
          | some o => rw [z] at q; exact congrArg some q
        have hjl := (List.getElem?_eq_some_iff.mp hjc).1
        have hn := (f.joined hjl c).mpr (.inr hjc)
        have := J.near hn
        rw [getD_of hj] at this
        rw [e2]
        exact this
    have hR : RootedAt n ls' (mt.getD v 0) (renum (At n ls v) mt) := ⟨hl', ⟨_, T'⟩, hfr⟩
    rw [at_eq F' hw hR]
    exact R
  · intro R p hm
    obtain ⟨hbl, ⟨rk', T'⟩, f'⟩ := at_spec F' hw
    obtain ⟨h1, h2⟩ := F.lt hm
    obtain ⟨e1, l1⟩ := perm_lt hp h1
    obtain ⟨e2, l2⟩ := perm_lt hp h2
    have hn : p.2 ∈ KM.near ls p.1 := mem_near.mpr (.inl hm)
    rcases (f.joined (by rw [hal]; exact h1) p.2).mp hn with z | z
    · have e := R.at' p.2 _ e2
      rw [z] at e
      exact (f'.joined (by rw [hbl]; exact l1) _).mpr (.inl e)
    · have e := R.at' p.1 _ e1
      rw [z] at e
      exact (f'.joined (by rw [hbl]; exact l1) _).mpr (.inr e)
theorem rf_joins (F : IsFree n ls) (F' : IsFree n ls') {mt : List Nat} (hp : mt.Perm (List.range n)) (J : Joins ls ls' mt) {v : Nat} (hv : v < n) : rf n ls' (mt.getD v 0) = rf n ls v := by
  have R := (joins_iff F F' hp hv).mp J
  obtain ⟨hal, _⟩ := at_spec F hv
  exact R.fm (by rw [hal]; exact hv)
end
def anewL (ls : Ln) (nm : List Nat) : Ln := ls.reverse.map fun p => (nm.getD p.2 0, nm.getD p.1 0)
theorem near_anew {ls : Ln} {nm : List Nat} {a b : Nat} (h : b ∈ near ls a) : nm.getD b 0 ∈ near (anewL ls nm) (nm.getD a 0) := by
  rcases mem_near.mp h with z | z
  · exact mem_near.mpr (.inr (List.mem_map.mpr ⟨_, List.mem_reverse.mpr z, rfl⟩))
  · exact mem_near.mpr (.inl (List.mem_map.mpr ⟨_, List.mem_reverse.mpr z, rfl⟩))
theorem FreeOf.anew {ab : Ab} {r : Nat} {rk : Nat → Nat} {ls : Ln} {nm : List Nat} (T : Tree ab r rk) (f : FreeOf ab ls) (hp : nm.Perm (List.range ab.length)) : FreeOf (renum ab nm) (anewL ls nm) := by
  have R := renum_ok T hp
  refine (R.tree T).freeOf (by rw [R.len]; unfold anewL; rw [List.length_map, List.length_reverse]; exact f.len T) fun k p h => ?_
  have hk : k < ab.length := by rw [← R.len]; exact (List.getElem?_eq_some_iff.mp h).1
  obtain ⟨j, hj⟩ := List.mem_iff_getElem?.mp (hp.mem_iff.mpr (List.mem_range.mpr hk))
  have e := R.at' j k hj
  rw [h] at e
  cases q : ab[j]?.getD none with
  | none => rw [q] at e; cases Option.some.inj e
  | some c =>
    rw [q] at e
    have e2 : p = nm.getD c 0 := Option.some.inj (Option.some.inj e)
    have hjc : ab[j]? = some (some c) := by
      cases z : ab[j]? with
      | none => rw [z] at q; cases q
      | some o => rw [z] at q; exact congrArg some q
    have := near_anew (nm := nm) ((f.joined (List.getElem?_eq_some_iff.mp hjc).1 c).mpr (.inr hjc))
    rw [getD_of hj] at this
    rw [e2]
    exact this
theorem IsFree.anew {n : Nat} {ls : Ln} {nm : List Nat} (F : IsFree n ls) (hp : nm.Perm (List.range n)) : IsFree n (anewL ls nm) := by
  obtain ⟨ab, r, rk, T, rfl, f⟩ := F
  exact ⟨_, _, _, (renum_ok T hp).tree T, (renum_ok T hp).len, f.anew T hp⟩
end KM


set_option Elab.async false
set_option linter.all false
set_option maxRecDepth 100000
namespace L2
open PySem PySem.Spec PyProof.Rows
theorem comp_revF {K : PySem.W.Frag} {a : Addr} {xs : List V} {js : List (Option Nat)} {g : TG} {ti : TT} {te : TE} {σ : St} {H1 : Hp} {Q : VK} (Pv : Addr → Nat → List V → St → Hp → Prop)
    (h0 : ∀ D, H1 D = none → Pv D 0 [] (outSt js σ) (upd H1 D (.lst []))) (hl : ∀ D i ys τ H, i ≤ xs.length → Pv D i ys τ H → SqL K H a xs)
    (hs : ∀ D (i : Nat) x ys τ H, i < xs.length → xs[xs.length - 1 - i]? = some x → Pv D i ys τ H → g x τ H fun τ2 H2 => ti τ2 H2 fun b H3 =>
      if b = true then te τ2 H3 fun y H4 => H4 D = some (.lst ys) ∧ ys.length < sizeLine ∧ Nx xs.length i (Pv D (i + 1) (ys ++ [y]) τ2 (upd H4 D (.lst (ys ++ [y]))))
      else Nx xs.length i (Pv D (i + 1) ys τ2 H3))
    (hd : ∀ D ys τ H, Pv D xs.length ys τ H → Q (.ref D) H) : CompW (Itv K a xs.length) js g ti te σ H1 Q := by
  intro D hD
  refine ⟨fun i m ys τ H => m = xs.length - i ∧ i ≤ xs.length ∧ Pv D i ys τ H, ⟨xs.length, by simp, Nat.zero_le _, h0 D hD⟩, ?_⟩
  rintro i m ys τ H ⟨rfl, hi, p⟩
  have q := hl D i ys τ H hi p
  by_cases hlt : i < xs.length
  · refine .inr ⟨⟨hlt, xs, xs[xs.length - 1 - i], q, List.getElem?_eq_getElem (by omega)⟩, fun x H' y => ?_⟩
    obtain ⟨e, y⟩ := y
    subst e
    exact hs D i x ys τ _ hlt (y xs q) p
  · have e : i = xs.length := by omega
    subst e
    exact .inl ⟨rfl, hd D ys τ H p⟩
end L2
namespace KD
open PySem L2 KM PyProof.Rows
def spAreKnotsI : Sp := fun vs H Q _ => ∃ (a : Addr) (ks : List Int) (n : Nat), vs = [.ref a, vN n] ∧ H a = some (.lst (ks.map V.int)) ∧ ks.length = n ∧ n ≤ 1000 ∧ ∀ H', Same H H' → Q (.bl true) H'
def spKept : Sp := fun vs H Q _ => ∃ (t L t' L' : Addr) (ps ps' : List Addr) (c : Int) (li : LI), vs = [.ref t, .ref t'] ∧ TreeAt H t L ps c li ∧ TreeAt H t' L' ps' c li ∧ li.length ≤ 100 ∧ ∀ H', Same H H' → Q (.bl true) H'
def spLinesOf : Sp := fun vs H Q _ => ∃ (a b : Addr) (ab : Ab) (ns : List Int), vs = [.ref a, .ref b] ∧ H a = some (.lst (ab.map vO)) ∧ H b = some (.lst (ns.map V.int)) ∧ Up ab ∧ ab.length ≤ 100 ∧ ns.length ≤ 100 ∧
  ∀ (L : Addr) (ps : List Addr) (ls : Ln) (H' : Hp), Same H H' → LinesAt H' L ps (toL ls) → FreeOf ab ls → Q (.ref L) H'
def spAnew : Sp := fun vs H Q _ => ∃ (a b : Addr) (ps : List Addr) (ls : Ln) (nm : List Nat), vs = [.ref a, .ref b] ∧ LinesAt H a ps (toL ls) ∧ H b = some (.lst (nm.map vN)) ∧ (∀ p ∈ ls, p.1 < nm.length ∧ p.2 < nm.length) ∧ ls.length ≤ 100 ∧
  ∀ (L : Addr) (ps' : List Addr) (H' : Hp), Same H H' → LinesAt H' L ps' (toL (anewL ls nm)) → Q (.ref L) H'
def edsTo (ab : Ab) (i : Nat) : Ln := (List.range i).filterMap (ed1 ab)
theorem edsTo_step {ab : Ab} {i p : Nat} (h : ab[i]? = some (some p)) : edsTo ab (i + 1) = edsTo ab i ++ [(i, p)] := by
  unfold edsTo
  rw [List.range_succ, List.filterMap_append]
  have : ed1 ab i = some (i, p) := by unfold ed1; rw [h]; rfl
  simp [this]
theorem edsTo_one {ab : Ab} (h : ab[0]? = some none) : edsTo ab 1 = [] := by
  unfold edsTo
  have : ed1 ab 0 = none := by unfold ed1; rw [h]; rfl
  simp [List.range_succ, this]
theorem lines_ins {H : Hp} {L c : Addr} {ps : List Addr} {ls : Ln} (G : LinesAt H L ps (toL ls)) (p : Nat × Nat) (hc : H c = some (.tup (vP ((p.1 : Int), (p.2 : Int))))) (j : Nat) (hj : j ≤ ls.length) :
    LinesAt (upd H L (.lst ((ps.map V.ref).take j ++ V.ref c :: (ps.map V.ref).drop j))) L (ps.take j ++ c :: ps.drop j) (toL (ls.take j ++ p :: ls.drop j)) := by
  have hpl : ps.length = ls.length := by rw [G.len, List.length_map, toL_len]
  have ne : ∀ d zs, H d = some (.tup zs) → d ≠ L := fun d zs h z => by
    have := G.top
    rw [← z, h] at this
    cases this
  have hts : (toL (ls.take j ++ p :: ls.drop j)).map vP = ((toL ls).map vP).take j ++ vP ((p.1 : Int), (p.2 : Int)) :: ((toL ls).map vP).drop j := by
    unfold toL
    rw [List.map_append, List.map_cons, List.map_append, List.map_cons, List.map_take, List.map_drop, List.map_take, List.map_drop]
  have hlt : (ps.take j).length = j := by rw [List.length_take]; omega
  have hltt : (((toL ls).map vP).take j).length = j := by rw [List.length_take, List.length_map, toL_len]; omega
  refine ⟨?_, ?_, fun i d ys hd hy => ?_, fun ys hy => ?_⟩
  · rw [upd_same, List.map_append, List.map_cons, List.map_take, List.map_drop]
  · rw [hts, List.length_append, List.length_append, hlt, hltt, List.length_cons, List.length_cons, List.length_drop, List.length_drop, List.length_map, toL_len, hpl]
  · rw [hts] at hy
    by_cases h1 : i < j
    · rw [List.getElem?_append_left (by omega), List.getElem?_take_of_lt h1] at hd
      rw [List.getElem?_append_left (by omega), List.getElem?_take_of_lt h1] at hy
      have e := G.each i d ys hd hy
      rw [upd_ne (ne d ys e)]
      exact e
    · rw [List.getElem?_append_right (by omega), hlt] at hd
      rw [List.getElem?_append_right (by omega), hltt] at hy
      cases q : i - j with
      | zero =>
        rw [q] at hd hy
        cases hd
        cases hy
        rw [upd_ne (ne _ _ hc)]
        exact hc
      | succ m =>
        rw [q, List.getElem?_cons_succ, List.getElem?_drop] at hd hy
        have e := G.each (j + m) d ys hd hy
        rw [upd_ne (ne d ys e)]
        exact e
  · obtain ⟨p', _, rfl⟩ := List.mem_map.mp hy
    rfl
theorem lines_snoc {H : Hp} {L c : Addr} {ps : List Addr} {ls : Ln} (G : LinesAt H L ps (toL ls)) (p : Nat × Nat) (hc : H c = some (.tup (vP ((p.1 : Int), (p.2 : Int))))) :
    LinesAt (upd H L (.lst (ps.map V.ref ++ [V.ref c]))) L (ps ++ [c]) (toL (ls ++ [p])) := by
  have h := lines_ins G p hc ls.length (Nat.le_refl _)
  have hpl : ps.length = ls.length := by rw [G.len, List.length_map, toL_len]
  rw [List.take_length, List.drop_length, List.take_of_length_le (by rw [List.length_map]; omega), List.drop_of_length_le (by rw [List.length_map]; omega), List.take_of_length_le (by omega), List.drop_of_length_le (by omega)] at h
  exact h
theorem perm_ins2 {α : Type} (l : List α) (x : α) (j : Nat) : (l.take j ++ x :: l.drop j).Perm (l ++ [x]) := by
  refine (List.perm_middle.trans ?_).trans (List.perm_append_singleton _ _).symm
  rw [List.take_append_drop]
theorem lines_copy {H : Hp} {L h : Addr} {ps : List Addr} {li : LI} (G : LinesAt H L ps li) (hh : H h = none) : LinesAt (upd H h (.lst (ps.map V.ref))) h ps li :=
  ⟨upd_same, G.len, fun j c ys h1 h2 => (same_new hh _) _ _ (G.each j c ys h1 h2), G.flat⟩
theorem GroupsAt.keep {H : Hp} {l d : Addr} {as : List Addr} {gs : List (List Nat)} {o : HO} (G : GroupsAt H l as gs) (h : l ≠ d) (h2 : ∀ c ∈ as, c ≠ d) : GroupsAt (upd H d o) l as gs :=
  ⟨by rw [upd_ne h]; exact G.top, G.len, fun i c g hc hg => by rw [upd_ne (h2 c (List.mem_of_getElem? hc))]; exact G.each i c g hc hg⟩
end KD


set_option linter.all false
namespace KM
section
variable {ab : Ab} {r : Nat} {rk : Nat → Nat} {ls : Ln}
theorem rest_kids (T : Tree ab r rk) (f : FreeOf ab ls) {k : Nat} (hk : k < ab.length) (p : Nat → Bool) (hp : ∀ c, p c = true ↔ ab[k]? ≠ some (some c)) : ((near ls k).filter p).Perm (kids ab k) := by
  refine ((f.near hk).filter p).trans ?_
  rw [List.filter_append]
  have e1 : (kids ab k).filter p = kids ab k := List.filter_eq_self.mpr fun c hc => (hp c).mpr fun z => by
    have h1 := (T.up c k (mem_kids.mp hc)).2
    have h2 := (T.up k c z).2
    omega
  have e2 : (par ab k).filter p = [] := List.filter_eq_nil_iff.mpr fun c hc z => (hp c).mp z (mem_par.mp hc)
  rw [e1, e2, List.append_nil]
structure UF (ab : Ab) (r : Nat) (E td : List Nat) : Prop where
  nd : (E ++ td).Nodup
  lt : ∀ x ∈ E ++ td, x < ab.length
  root : r ∈ E ++ td
  par : ∀ x ∈ E ++ td, ∀ p, ab[x]? = some (some p) → p ∈ E
  kid : ∀ x ∈ E, ∀ c, ab[c]? = some (some x) → c ∈ E ++ td
theorem UF.step (T : Tree ab r rk) {E td ks : List Nat} {k : Nat} (U : UF ab r E (td ++ [k])) (hp : ks.Perm (kids ab k)) : UF ab r (E ++ [k]) (td ++ ks) := by
  have hmem : ∀ x, x ∈ (E ++ [k]) ++ (td ++ ks) ↔ x ∈ E ++ (td ++ [k]) ∨ x ∈ ks := fun x => by
    simp only [List.mem_append, List.mem_singleton]
    constructor
    · rintro ((h | h) | (h | h))
      · exact .inl (.inl h)
      · exact .inl (.inr (.inr h))
      · exact .inl (.inr (.inl h))
      · exact .inr h
    · rintro ((h | (h | h)) | h)
      · exact .inl (.inl h)
      · exact .inr (.inl h)
      · exact .inl (.inr h)
      · exact .inr (.inr h)
  have hks : ∀ x ∈ ks, ab[x]? = some (some k) := fun x hx => mem_kids.mp (hp.mem_iff.mp hx)
  have nd0 := U.nd
  have hkE : k ∉ E := fun z => by
    rw [List.nodup_append] at nd0
    exact nd0.2.2 k z k (by simp) rfl
  have hnew : ∀ x ∈ ks, x ∉ E ++ (td ++ [k]) := fun x hx z => hkE (U.par x z k (hks x hx))
  refine ⟨?_, fun x hx => ?_, (hmem r).mpr (.inl U.root), fun x hx p h => ?_, fun x hx c h => ?_⟩
  · have e : ((E ++ [k]) ++ (td ++ ks)).Perm ((E ++ (td ++ [k])) ++ ks) := by
      rw [List.append_assoc, List.append_assoc]
      refine List.Perm.append_left E ?_
      rw [← List.append_assoc]
      exact List.Perm.append_right ks List.perm_append_comm
    refine e.nodup_iff.mpr ?_
    rw [List.nodup_append]
    exact ⟨nd0, hp.nodup_iff.mpr (kids_nodup _ _), fun x hx y hy z => hnew y hy (z ▸ hx)⟩
  · rcases (hmem x).mp hx with h | h
    · exact U.lt x h
    · exact (List.getElem?_eq_some_iff.mp (hks x h)).1
  · rcases (hmem x).mp hx with z | z
    · exact List.mem_append.mpr (.inl (U.par x z p h))
    · rw [hks x z] at h
      cases h
      simp
  · rcases List.mem_append.mp hx with z | z
    · exact (hmem c).mpr (.inl (U.kid x z c h))
    · rw [List.mem_singleton.mp z] at h
      exact (hmem c).mpr (.inr (hp.mem_iff.mpr (mem_kids.mpr h)))
theorem UF.all (T : Tree ab r rk) {E : List Nat} (U : UF ab r E []) : ∀ x, x < ab.length → x ∈ E := by
  have U0 := U.root
  rw [List.append_nil] at U0
  have go : ∀ (b x : Nat), rk x ≤ b → x < ab.length → x ∈ E := by
    intro b
    induction b with
    | zero =>
      intro x hb hx
      cases e : ab[x]? with
      | none => rw [List.getElem?_eq_none_iff] at e; omega
      | some o => cases o with
        | none => rw [T.only x e]; exact U0
        | some p => have := (T.up x p e).2; omega
    | succ b ih =>
      intro x hb hx
      cases e : ab[x]? with
      | none => rw [List.getElem?_eq_none_iff] at e; omega
      | some o => cases o with
        | none => rw [T.only x e]; exact U0
        | some p =>
          have h1 := T.up x p e
          have h2 := U.kid p (ih p (by omega) h1.1) x e
          rwa [List.append_nil] at h2
  exact fun x hx => go (rk x) x (Nat.le_refl _) hx
theorem UF.len {E td : List Nat} (U : UF ab r E td) : E.length + td.length ≤ ab.length := by
  have h := U.nd.length_le_of_subset (l₂ := List.range ab.length) fun x hx => List.mem_range.mpr (U.lt x hx)
  rwa [List.length_append, List.length_range] at h
end
end KM


set_option Elab.async false
set_option linter.all false
set_option maxRecDepth 100000
namespace L2
open PySem PySem.Spec PyProof.Rows
theorem while_m {c : TT} {tb : TS} {D : Ends} {σ : St} {H : Hp} (Pv : Nat → St → Hp → Prop) (m0 : Nat) (h0 : Pv m0 σ H)
    (hs : ∀ m σ H, Pv m σ H → c σ H fun b H1 => if b = true then tb { D with nx := fun σ' H' => ∃ m', m' < m ∧ Pv m' σ' H', ct := fun σ' H' => ∃ m', m' < m ∧ Pv m' σ' H', bk := D.nx } σ H1 else D.nx σ H1)
    (mono : ∀ σ H Q Q', (∀ b H1, Q b H1 → Q' b H1) → c σ H Q → c σ H Q') : tWhile c tb D σ H := by
  refine ⟨Pv, ⟨m0, h0⟩, ?_⟩
  intro m σ H p
  refine mono σ H _ _ (fun b H1 q => ?_) (hs m σ H p)
  cases b with
  | true => exact ⟨_, fun σ' H' h => h, q⟩
  | false => exact q
section
variable {X : Cx}
def rNeNil (K : PySem.W.Frag) : R2 := fun x y H Q => ∃ a b xs, x = .ref a ∧ y = .ref b ∧ SqL K H a xs ∧ SqL K H b [] ∧ Q (.bl (!xs.isEmpty)) H
theorem op_neNil (hu : X.A.units < cLine) : OpR X (compareOp .NotEq) (rNeNil X.K) := by
  intro pins s σ H x y v u Q I rx ry h
  obtain ⟨a, b, xs, rfl, rfl, ha, hb, q⟩ := h
  cases rx
  cases ry
  obtain ⟨its, r, pl, _⟩ := I.list ha
  obtain ⟨its2, r2, pl2, _⟩ := I.list hb
  have l1 := r.length
  have l2 := r2.length
  rw [List.length_nil] at l2
  by_cases hs : its.toArray.size = its2.toArray.size
  · refine SeqAt.RcNeAt.lists (e := fun _ => true) pl.isList pl2.isList hs hu (fun j h1 h2 => ?_) _ _ _ _ ⟨.bl (!xs.isEmpty), H, I, ?_, q⟩
    · rw [List.size_toArray] at h2
      omega
    · rw [List.size_toArray, List.size_toArray] at hs
      show Value.bool _ = Value.bool _
      have hx : xs = [] := List.eq_nil_of_length_eq_zero (by omega)
      rw [List.size_toArray, show its.length = 0 by omega, hx]
      rfl
  · refine SeqAt.RcNeAt.lists_lengths pl.isList pl2.isList (by simpa using hs) hu _ _ _ _ ⟨.bl (!xs.isEmpty), H, I, ?_, q⟩
    rw [List.size_toArray, List.size_toArray] at hs
    show Value.bool _ = Value.bool _
    cases xs with
    | nil => rw [List.length_nil] at l1; omega
    | cons x xs => rfl
end
end L2
namespace KD
open PySem L2 KM PyProof.Rows
def spNearOf : Sp := fun vs H Q _ => ∃ (L : Addr) (ps : List Addr) (n : Nat) (ls : Ln), vs = [vN n, .ref L] ∧ LinesAt H L ps (toL ls) ∧ (∀ p ∈ ls, p.1 < n ∧ p.2 < n) ∧ n ≤ 100 ∧ ls.length ≤ 100 ∧
  ∀ (b : Addr) (bs : List Addr) (H' : Hp), Same H H' → BesideAt H' b bs n ls → Q (.ref b) H'
def spBranch (k : Nat) : Sp := fun vs H Q _ => ∃ (b : Addr) (bs : List Addr) (ls : Ln) (ab : Ab) (r v : Nat) (rk : Nat → Nat) (bk : Int), vs = [.ref b, vN v, .int bk] ∧ BesideAt H b bs ab.length ls ∧ Tree ab r rk ∧ FreeOf ab ls ∧ v < ab.length ∧ ab.length < 64 ∧ ab.length ≤ rk v + k ∧
  (∀ c : Nat, (c : Int) ≠ bk ↔ ab[v]? ≠ some (some c)) ∧ ∀ H', Same H H' → Q (vT (fm ab v)) H'
def spRootedAtQ : Sp := fun vs H Q _ => ∃ (t L : Addr) (ps : List Addr) (n : Nat) (ls : Ln) (v : Nat), vs = [.ref t, vN v] ∧ TreeAt H t L ps (n : Int) (toL ls) ∧ IsFree n ls ∧ n ≤ 60 ∧ v < n ∧
  ∀ (p : Addr) (H' : Hp), Same H H' → H p = none → H' p = some (.lst ((At n ls v).map vO)) → Q (.ref p) H'
theorem rootedat_quiet {C : Addr} : ∀ (vs : List V) (H : Hp) (Q : VK) (E : XK), spRootedAtQ vs H Q E → spRootedAt C vs H Q E0 := by
  rintro vs H Q E ⟨t, L, ps, n, ls, v, rfl, G, F, hn, hv, q⟩
  obtain ⟨hF, hl⟩ := freeL_of F
  refine ⟨t, L, ps, _, _, v, rfl, G, by omega, by omega, fun _ p H' s hp ep => ?_, fun h => absurd hF h⟩
  rw [hl, ofL_toL] at ep
  exact q p H' s hp ep
theorem tree_new {H : Hp} {L h1 th : Addr} {ps : List Addr} {ls : Ln} {n : Nat} (G : LinesAt H L ps (toL ls)) (hh : H h1 = none) (ht : upd H h1 (.lst (ps.map V.ref)) th = none) :
    TreeAt (upd (upd H h1 (.lst (ps.map V.ref))) th (.tup [.int ((n : Nat) : Int), .ref h1])) th h1 ps ((n : Nat) : Int) (toL ls) ∧ Same H (upd (upd H h1 (.lst (ps.map V.ref))) th (.tup [.int ((n : Nat) : Int), .ref h1])) :=
  ⟨⟨upd_same, (lines_copy G hh).up (same_new ht _)⟩, (same_new hh _).trans (same_new ht _)⟩
end KD


set_option Elab.async false
set_option linter.all false
set_option maxRecDepth 100000
namespace L2
open PySem PySem.Spec PyProof.Rows
theorem kV_of {P : Program} {w : World} {k : Key} {u : Value} (h : (mixKind P w).is k u = true) : RelV (kV k) u := by
  rcases keyIs_shape (show keyIs k u = true from h) with ⟨i, t, rfl, rfl⟩ | ⟨x, t, rfl, rfl⟩
  · exact ⟨t, rfl⟩
  · exact ⟨t, rfl⟩
theorem KV.at {κ : Type} : ∀ {kvs : List (κ × V)} {vs : List (κ × Value)}, KV kvs vs → ∀ {i : Nat} {kv : κ × V}, kvs[i]? = some kv → ∃ v, vs[i]? = some (kv.1, v) ∧ RelV kv.2 v
  | _, _, .nil, _, _, h => (nomatch h)
  | _, _, .cons (a := a) (b := b) r t, 0, kv, h => by
    have e : a = kv := Option.some.inj h
    subst e
    refine ⟨b.2, ?_, r.2⟩
    show some b = _
    rw [r.1]
  | _, _, .cons _ t, i + 1, kv, h => KV.at t (i := i) h
theorem KV.at2 {κ : Type} : ∀ {kvs : List (κ × V)} {vs : List (κ × Value)}, KV kvs vs → ∀ {i : Nat} {q : κ × Value}, vs[i]? = some q → ∃ x, kvs[i]? = some (q.1, x) ∧ RelV x q.2
  | _, _, .nil, _, _, h => (nomatch h)
  | _, _, .cons (a := a) (b := b) r t, 0, q, h => by
    have e : b = q := Option.some.inj h
    subst e
    refine ⟨a.2, ?_, r.2⟩
    show some a = _
    rw [← r.1]
  | _, _, .cons _ t, i + 1, q, h => KV.at2 t (i := i) h
def Itd (d : Addr) (o : Obj) (kvs : List (Key × V)) : It :=
  ⟨fun i H => H d = some (.frz o (.dK kvs)) ∧ i < kvs.length, fun i H x H' => H' = H ∧ ∃ kv, kvs[i]? = some kv ∧ x = kV kv.1, fun i H => H d = some (.frz o (.dK kvs)) ∧ kvs.length ≤ i⟩
theorem frz_at {X : Cx} {pins : List (Addr × Obj)} {σ : St} {H : Hp} {s : Shared} {d : Addr} {o : Obj} {kvs : List (Key × V)} {es : Array DictEntry} {ep : Nat} (I : Inv X pins σ H s) (h : H d = some (.frz o (.dK kvs))) (he : o.data = .dict es ep) :
    ∃ vs, KV kvs vs ∧ s.heap.DictAt (mixKind X.prog X.w) d vs ep := by
  obtain ⟨ho, hz, hS, vs, rel, ob, es', ep', e1, e2, e3, e4⟩ := (show ObjOk X.prog X.w H s.heap d (.frz o (.dK kvs)) from I.hok d _ h)
  rw [ho] at e1
  cases e1
  rw [he] at e3
  cases e3
  exact ⟨vs, rel, o, es, ho, e2, he, e4⟩
theorem turn_dict {P : Program} {w : World} {K : PySem.W.Frag} {tg : Expr} (d it : Addr) (ob : Obj) (kvs : List (Key × V)) {es : Array DictEntry} {ep : Nat} (he : ob.data = .dict es ep) : Turn P w K tg (Itd d ob kvs) [it] it (fun i h => h.IsKeyIter it d i kvs.length ep) where
  mem := by simp
  obj := fun i h st b hb => by
    have e : b = it := by simpa using hb
    subst e
    obtain ⟨o, e, c, d⟩ := st
    exact ⟨o, e, fun v z => by rw [d] at z; cases z⟩
  keep := fun i h h' st k => st.at fun o e => k it (by simp) o e
  item := by
    intro X hP hw hK hc i pins s σ H E I hf st hg
    subst hP hw hK
    obtain ⟨hd, hi⟩ := hg
    obtain ⟨vs, rel, da⟩ := frz_at I hd he
    have hl := rel.length
    obtain ⟨v, hv, _⟩ := rel.at (List.getElem?_eq_getElem hi)
    obtain ⟨f0, f1, f2, f3, f4, f5⟩ := hf it (by simp)
    rw [hl] at st
    refine wpAny_pyNext_dict_item st da hv fun key h' hkey st' sb => ?_
    have I1 : Inv X pins σ H { s with heap := h' } := I.turned (t' := s.toks) (fun b o hb e => (sb.2 b hb).trans e) f0 f1 f3 f4 f5
    obtain ⟨o, e, c, dd⟩ := id st'
    exact ⟨key, rfl, go_of (s := { s with heap := h' }) e c dd (by decide) ⟨kV kvs[i].1, H, I1, kV_of hkey, ⟨rfl, kvs[i], List.getElem?_eq_getElem hi, rfl⟩, by rw [hl]; exact st', fun b hb => (hf b hb).1⟩⟩
  done := by
    intro X hP hw hK hc i pins s σ H E I hf st hg
    subst hP hw hK
    obtain ⟨hd, hi⟩ := hg
    obtain ⟨vs, rel, da⟩ := frz_at I hd he
    have hl := rel.length
    obtain ⟨f0, f1, f2, f3, f4, f5⟩ := hf it (by simp)
    rw [hl] at st
    exact wpAny_pyNext_dict_end (I.ok.hd hc) st da (List.getElem?_eq_none (by omega)) fun h' eb => ⟨rfl, I.turned (t' := s.toks) (fun b o hb e => eb b o hb e) f0 f1 f3 f4 f5⟩
  self := fun _ _ _ _ _ st h => wpAny_pyIter_keyiter st h
section
variable {X : Cx} {tg : Expr}
def iDict (td : TE) : TI := fun σ H R => td σ H fun x H1 => ∃ d kvs, x = .ref d ∧ H1 d = some (.dK kvs) ∧ ∀ o, R (Itd d o kvs) (upd H1 d (.frz o (.dK kvs)))
theorem pi_dict {l : Expr} {td : TE} (hl : PE X l td) : PI X tg l (iDict td) := by
  intro pins s σ H R I h
  refine thn (hl pins s σ H _ I h) fun v s1 ⟨x, H1, I1, r1, q1⟩ => ?_
  obtain ⟨d, kvs, e, hd, q⟩ := q1
  subst e
  cases r1
  obtain ⟨hz, hS, vs, rel, ob, es, ep, he, c1, c2, c3⟩ := (show ObjOk X.prog X.w H1 s1.heap d (.dK kvs) from I1.hok d _ hd)
  have da : s1.heap.DictAt (mixKind X.prog X.w) d vs ep := ⟨ob, es, he, c1, c2, c3⟩
  have I2 : Inv X pins σ (upd H1 d (.frz ob (.dK kvs))) s1 := I1.write (t' := s1.toks) (x := d) (e := d) (by rw [hd]; exact trivial) (.inl rfl) (fun b u _ hu => hu) ⟨_, he⟩ ⟨he, hz, hS, vs, rel, ob, es, ep, he, c1, c2, c3⟩
  refine wpAny_pyIter_dict hS da ?_
  refine ⟨s1.heap.objs.size, [s1.heap.objs.size], _, _, upd H1 d (.frz ob (.dK kvs)), rfl, I2.kept (t' := s1.toks) fun b o e => Heap.get?_push_of_some _ e, turn_dict d _ ob kvs c2, ⟨_, Heap.get?_push_size _ rfl, rfl, by rw [rel.length]; rfl⟩, fun b hb => ?_, q ob⟩
  have e : b = s1.heap.objs.size := by simpa using hb
  subst e
  exact I2.fpOk (Nat.le_refl _) (I2.hok.fresh (Nat.le_refl _))
theorem for_dict {d : Addr} {o : Obj} {kvs : List (Key × V)} {g : TG} {tb : TS} {D : Ends} {σ : St} {H : Hp} (Pv : Nat → St → Hp → Prop) (h0 : Pv 0 σ H) (hl : ∀ i σ H, i ≤ kvs.length → Pv i σ H → H d = some (.frz o (.dK kvs)))
    (hs : ∀ i kv σ H, kvs[i]? = some kv → Pv i σ H → g (kV kv.1) σ H fun σ2 H2 => tb { D with nx := Pv (i + 1), ct := Pv (i + 1), bk := D.nx } σ2 H2) (hd : ∀ σ H, Pv kvs.length σ H → D.nx σ H) :
    ∃ W : Nat → Nat → St → Hp → Prop, (∃ m, W 0 m σ H) ∧ ∀ i m σ H, W i m σ H →
      ((Itd d o kvs).stop i H ∧ D.nx σ H) ∨ ((Itd d o kvs).go i H ∧ ∃ N : St → Hp → Prop, (∀ σ' H', N σ' H' → ∃ m', m' < m ∧ W (i + 1) m' σ' H') ∧ ∀ x H', (Itd d o kvs).yld i H x H' → g x σ H' fun σ2 H2 => tb { D with nx := N, ct := N, bk := D.nx } σ2 H2) := by
  refine ⟨fun i m σ H => m = kvs.length - i ∧ i ≤ kvs.length ∧ Pv i σ H, ⟨kvs.length, by simp, Nat.zero_le _, h0⟩, ?_⟩
  rintro i m σ H ⟨rfl, hi, p⟩
  have q := hl i σ H hi p
  by_cases hlt : i < kvs.length
  · refine .inr ⟨⟨q, hlt⟩, Pv (i + 1), fun σ' H' p' => ⟨kvs.length - (i + 1), by omega, rfl, hlt, p'⟩, fun x H' y => ?_⟩
    obtain ⟨e, kv, hkv, rfl⟩ := y
    subst e
    exact hs i kv σ _ hkv p
  · have e : i = kvs.length := by omega
    subst e
    exact .inl ⟨⟨q, Nat.le_refl _⟩, hd σ H p⟩
def valsAt (p d : Addr) : HO := .ext fun h => h.IsValuesView p d
def rVals : V → List V → Hp → VK → Prop := fun x vs H Q => ∃ d kvs, x = .ref d ∧ vs = [] ∧ H d = some (.dK kvs) ∧ ∀ p, H p = none → Q (.ref p) (upd H p (valsAt p d))
theorem mt_values : MtR X "dict.values" rVals := by
  intro pins s σ H x vs v us Q I rx rv h
  obtain ⟨d, kvs, rfl, rfl, hd, q⟩ := h
  cases rx
  have hus := rv.zero
  subst hus
  obtain ⟨hz, hS, ws, rel, dd⟩ := dk_of I.hok hd
  refine call_meetsIn PySem.F.slot_dict_values dd.typeIs PySem.F.entry_dict_values (PySem.F.args_dict_values_1 _) (meets_dict_values (mixKind X.prog X.w) d hS) ⟨⟨ws, dd⟩, ?_⟩
  refine ⟨.ref _, upd H s.heap.objs.size (valsAt s.heap.objs.size d), I.laid (t' := s.toks) (fun _ _ q => Heap.get?_push_of_some _ q) (Nat.le_refl _) ?_, rfl, q _ I.fresh⟩
  refine ⟨⟨_, Heap.get?_push_size _ rfl, rfl, rfl⟩, ⟨_, Heap.get?_push_size _ rfl⟩, fun h1 h2 hv k => ?_⟩
  obtain ⟨o, e, c, f⟩ := hv
  exact ⟨o, k o e, c, f⟩
def rMaxV : List V → Hp → VK → Prop := fun xs H Q => ∃ (p d : Addr) (kvs : List (Key × V)) (ns : List Int) (m : Int), xs = [.ref p] ∧ H p = some (valsAt p d) ∧ H d = some (.dK kvs) ∧ kvs.map (·.2) = ns.map V.int ∧ m ∈ ns ∧ (∀ n ∈ ns, n ≤ m) ∧ Q (.int m) H
theorem call_maxV (hc : X.calm = true) : CallR X (.builtin "max") rMaxV := by
  intro pins s σ H xs us Q I r h
  obtain ⟨p, d, kvs, ns, m, rfl, hp, hd, hns, hm, hle, q⟩ := h
  obtain ⟨u, rfl, rx⟩ := vals1 r
  cases rx
  obtain ⟨hv, _, _⟩ := (show ObjOk X.prog X.w H s.heap p (valsAt p d) from I.hok p _ hp)
  obtain ⟨hz, hS, vs, rel, dd⟩ := dk_of I.hok hd
  obtain ⟨ep, da⟩ := dd.dictAt
  have hlen : vs.length = ns.length := by rw [← rel.length, ← List.length_map (f := fun kv : Key × V => kv.2), hns, List.length_map]
  have hpos : 0 < ns.length := List.length_pos_of_mem hm
  have hdl := da.lt_size
  have hval : ∀ (i : Nat) (v : Value), (∃ k, vs[i]? = some (k, v)) → ∃ t, v = .int (ns.getD i 0) t := fun i v ⟨k, hk⟩ => by
    obtain ⟨x, hx, rx⟩ := rel.at2 hk
    have e : (kvs.map (·.2))[i]? = some x := by rw [List.getElem?_map, hx]; rfl
    rw [hns, List.getElem?_map] at e
    cases hni : ns[i]? with
    | none => rw [hni] at e; cases e
    | some j =>
      rw [hni] at e
      have e' : V.int j = x := Option.some.inj e
      subst e'
      obtain ⟨t, ht⟩ := rx
      exact ⟨t, by rw [List.getD_eq_getElem?_getD, hni]; exact ht⟩
  refine call_max_walk (wpAny_pyIter_values (knd := mixKind X.prog X.w) hv da ?_)
  refine ⟨_, [s.heap.objs.size, d], [s.heap.objs.size], _, _, _, _, rfl, Walks.dictValues (A := X.A.in1) (I.ok.hd hc) s.heap.objs.size d (Nat.ne_of_lt hdl) vs ep, ⟨⟨_, Heap.get?_push_size _ rfl, rfl, rfl⟩, da.push _⟩, fun b hb => ?_, by omega, CmpOf.ints_gt (fun i => ns.getD i 0) hval, fun v h' tk hP hk => ?_⟩
  · show b < (s.heap.push _).objs.size
    rw [Heap.size_push]
    rcases List.mem_cons.mp hb with rfl | hb
    · exact Nat.lt_succ_self _
    · rw [List.mem_singleton.mp hb]
      exact Nat.lt_succ_of_lt hdl
  · have I1 : Inv X pins σ H { s with heap := h', toks := tk } := I.kept fun b o e => hk b o (fun z => absurd (List.mem_singleton.mp z ▸ Heap.lt_size e) (Nat.lt_irrefl _)) (Heap.get?_push_of_some _ e)
    obtain ⟨t, rfl⟩ := hval _ _ hP
    refine ⟨.int m, H, I1, ⟨t, ?_⟩, q⟩
    have hb := argBest_le (fun i j => decide (ns.getD i 0 > ns.getD j 0)) (vs.length - 1)
    have hbl : argBest (fun i j => decide (ns.getD i 0 > ns.getD j 0)) (vs.length - 1) < ns.length := by omega
    have e : ns.getD (argBest (fun i j => decide (ns.getD i 0 > ns.getD j 0)) (vs.length - 1)) 0 = m := by
      refine Int.le_antisymm ?_ ?_
      · refine hle _ ?_
        rw [List.getD_eq_getElem?_getD, List.getElem?_eq_getElem hbl]
        exact List.getElem_mem _
      · obtain ⟨j, hj⟩ := List.mem_iff_getElem?.mp hm
        obtain ⟨hjl, e⟩ := List.getElem?_eq_some_iff.mp hj
        have := argBest_max (fun i => ns.getD i 0) (vs.length - 1) j (by omega)
        rw [List.getD_eq_getElem?_getD, hj] at this
        exact this
    rw [e]
end
end L2


set_option Elab.async false
set_option linter.all false
set_option maxRecDepth 100000
namespace L2
open PySem PySem.Spec PyProof.Rows
section
variable {P : Program} {w : World} {K : PySem.W.Frag} {mg : Str → Option Value} {base : Heap} {N : List Str} {qual : Str} {scope0 : Scope} {f : Addr} {cd : Value} {A : Around} {outer : List Env} {s0 : Shared} {H0 : Hp} {E : XK}
theorem ps_setCompE {i : Nat} {y : Str} {py spos : Pos} (hN : (cxOf (CXe P w) P w K mg base N qual scope0 f cd A outer s0 H0 E).N.Nodup) (hi0 : (cxOf (CXe P w) P w K mg base N qual scope0 f cd A outer s0 H0 E).N[i]? = some y) (hx : Loc (cxOf (CXe P w) P w K mg base N qual scope0 f cd A outer s0 H0 E).env.scope y) (K0 : CompOk (cxOf (CXe P w) P w K mg base N qual scope0 f cd A outer s0 H0 E) scope cl N' js) (hi : PI (cxOf (CXe P w) P w K mg base N qual scope0 f cd A outer s0 H0 E) tg iter wi)
    (hg : ∀ C s₀ H₀ fp, PG (compCx (cxOf (CXe P w) P w K mg base N qual scope0 f cd A outer s0 H0 E) N' scope cl C s₀ H₀ fp) tg g) (hif : ∀ C s₀ H₀ fp, PIf (compCx (cxOf (CXe P w) P w K mg base N qual scope0 f cd A outer s0 H0 E) N' scope cl C s₀ H₀ fp) ifs ti)
    (he : ∀ C s₀ H₀ fp xe, Passes (CXe P w) (compCxE (cxOf (CXe P w) P w K mg base N qual scope0 f cd A outer s0 H0 E) N' scope cl C s₀ H₀ fp xe) E → PE (compCxE (cxOf (CXe P w) P w K mg base N qual scope0 f cd A outer s0 H0 E) N' scope cl C s₀ H₀ fp xe) elt te)
    (hsw : swapsWith (.ListComp elt [⟨tg, iter, ifs, 0⟩] scope pos) (some (.Name y py)) spos.line (cxOf (CXe P w) P w K mg base N qual scope0 f cd A outer s0 H0 E).env = pure true := by rfl) (hs : ∀ x, foldedSetIterable iter (cxOf (CXe P w) P w K mg base N qual scope0 f cd A outer s0 H0 E).env x = pure x := by intro _; rfl)
    (hf : (cxOf (CXe P w) P w K mg base N qual scope0 f cd A outer s0 H0 E).fn y = true ∨ (cxOf (CXe P w) P w K mg base N qual scope0 f cd A outer s0 H0 E).env.scope.names.lookup y = some .local := by first | exact .inl rfl | exact .inr rfl | assumption) :
    PS (cxOf (CXe P w) P w K mg base N qual scope0 f cd A outer s0 H0 E) (.Assign [.Name y py] (.ListComp elt [⟨tg, iter, ifs, 0⟩] scope pos) spos) (tAsg (tComp wi js g ti te) (gName i)) := by
  intro pins s σ H D I h
  rw [exec_Assign_Name_used _ _ _ _ hsw]
  refine wpAny_bind (wpAny_standAt (wpAny_bind ?_))
  show wpAny _ (cxOf (CXe P w) P w K mg base N qual scope0 f cd A outer s0 H0 E).A (do let _ ← comprehension (.ListComp elt [⟨tg, iter, ifs, 0⟩] scope pos) scope (cxOf (CXe P w) P w K mg base N qual scope0 f cd A outer s0 H0 E).env _ (newList []) false (eval iter (cxOf (CXe P w) P w K mg base N qual scope0 f cd A outer s0 H0 E).env) (some (assign (.Name y py) (cxOf (CXe P w) P w K mg base N qual scope0 f cd A outer s0 H0 E).env))) _ _ s
  refine wpAny_bind (wpAny_mono (wpAny_comprehension_free (use := some (assign (.Name y py) (cxOf (CXe P w) P w K mg base N qual scope0 f cd A outer s0 H0 E).env)) (Q := fun _ s' => SP (cxOf (CXe P w) P w K mg base N qual scope0 f cd A outer s0 H0 E) pins D .next s') rfl hs K0.clos K0.kind K0.names
    (thn (hi pins s σ H _ I h) fun v s1 h1 => thn h1 fun itv s2 h2 => ?_)) (fun _ s' hq => wpAny_pure (wpAny_pure hq)) fun _ _ e => e)
  obtain ⟨it, fp, tn, J, H2, e, I2, T, st2, f2, hW⟩ := h2
  subst e
  refine comp_blockE (E := E) (RR := fun acc C => compPost (model P w) (cxOf (CXe P w) P w K mg base N qual scope0 f cd A outer s0 H0 E).A (cxOf (CXe P w) P w K mg base N qual scope0 f cd A outer s0 H0 E).xe (some (assign (.Name y py) (cxOf (CXe P w) P w K mg base N qual scope0 f cd A outer s0 H0 E).env)) (fun _ s' => SP (cxOf (CXe P w) P w K mg base N qual scope0 f cd A outer s0 H0 E) pins D .next s') acc C) K0 rfl I2 T st2 f2 hg hif he hW ?_ ?_
  · intro L C s' H' I' hn hC q
    obtain ⟨m, hm⟩ := hn
    show wpAny _ (cxOf (CXe P w) P w K mg base N qual scope0 f cd A outer s0 H0 E).A (assign (.Name y py) (cxOf (CXe P w) P w K mg base N qual scope0 f cd A outer s0 H0 E).env (.ref L)) _ _ _
    refine wpAny_assign_Name (store_ok2 (v := .ref L) I' hN hi0 hx rfl (fun s'' I'' hch => ?_) hf)
    obtain ⟨a, hsb, ha⟩ := hch
    have hCa : C ≠ a := by
      rcases ha with e | e
      · rw [e]; exact hC.2.1
      · exact Ne.symm (hC.2.2.2.2.1 _ _ e)
    refine ⟨m, hm.sameBut hsb hCa, fun h' hs' => ⟨_, H', comp_free I'' ?_ hs', q⟩⟩
    exact hC
  · rintro D C e s' hC hCs ⟨a, cls, a0, H', B, rfl, F, hn, hE⟩
    show wpAny _ _ (noteFrame (.ref a) (envOfC qual scope0 s0.heap.objs.size f cd)) _ _ s'
    refine wpAny_noteFrame_onW (L := s0.heap.objs.size) I2.ok.frames F.ff rfl F.tr F.stays F.hen fun h2 N2 => ?_
    obtain ⟨n1, n2, n3, n4⟩ := N2
    have F2 := F.turn hC n1 n2 n3 n4
    obtain ⟨m, hm⟩ := hn
    have hm2 := ns_slots hm n4
    refine ⟨m, hm2, fun h3 hs3 cenv hcl => ?_⟩
    have F3 := F2.drop hC hCs ⟨m, hm2⟩ hs3
    unfold PySem.passOn
    obtain ⟨oe, vs, T, oT, ts, he', hcls, hd, h1, hrest⟩ := id F3.tr
    refine wpAny_bind (wpAny_field he' hd h1 ?_)
    rw [if_neg (show ¬ ((Value.ref T == Value.none) = true) from by simp)]
    refine wpAny_bind (setFlight_any F3.stays F3.ff F3.tr fun h4 fl' y1 y2 y3 y4 => ?_)
    have F4 := F3.turn hC y1 y2 y3 y4
    refine wpAny_throw ?_
    have hch : ∀ b ∈ fp, (b ∈ (cxOf (CXe P w) P w K mg base N qual scope0 f cd A outer s0 H0 E).ex ∨ s0.heap.objs.size ≤ b) ∧ b ≠ (cxOf (CXe P w) P w K mg base N qual scope0 f cd A outer s0 H0 E).env.locals ∧ (∀ x c, (cxOf (CXe P w) P w K mg base N qual scope0 f cd A outer s0 H0 E).env.cells.lookup x = some c → c ≠ b) ∧ ∀ p ∈ (cxOf (CXe P w) P w K mg base N qual scope0 f cd A outer s0 H0 E).pn ++ pins, p.1 ≠ b :=
      fun b hb => ⟨(f2 b hb).2.2.2.1, (f2 b hb).2.1, (f2 b hb).2.2.2.2.1, (f2 b hb).2.2.2.2.2⟩
    have I4 := I2.call' (ch := fp) F4.os F4.un F4.hok F4.bare hch
    refine leavesX I4 F4.stays F4.hen F4.ff F4.tr (fun b ob q hb hc => F4.cov b ob q hb ?_ ?_) hE
    · intro z
      rcases hc with ⟨o0, h0⟩ | hn'
      · have := Heap.lt_size h0
        have hsz := I2.sz
        rw [z] at this
        exact absurd (Nat.lt_of_lt_of_le this (Nat.le_trans hsz hC)) (Nat.lt_irrefl _)
      · rw [z] at hn'
        exact hn' F4.cn
    · rcases hc with ⟨o0, h0⟩ | hn'
      · refine .inl ⟨fun hb' => ?_, I2.base.there b o0 h0 (fun z => absurd (show b ∈ ([] : List Addr) from z) (by simp))⟩
        rcases (hch b hb').1 with z | z
        · exact absurd (show b ∈ ([] : List Addr) from z) (by simp)
        · exact absurd (Nat.lt_of_lt_of_le (Heap.lt_size h0) z) (Nat.lt_irrefl _)
      · exact .inr hn'
end
end L2


set_option linter.all false
namespace KM
section
variable {n : Nat} {ls ls' : Ln}
noncomputable def ecc (n : Nat) (ls : Ln) (v : Nat) : Nat := Classical.epsilon fun e => Ecc n ls v e
theorem ecc_of {ab : Ab} {v e : Nat} (R : RootedAt n ls v ab) (h1 : ∀ k d, k < n → Dep ab k d → d ≤ e) (h2 : ∃ k, k < n ∧ Dep ab k e) : Ecc n ls v e where
  most := fun ab' k d R' hk hd => by rw [R.uniq R'] at hd; exact h1 k d hk hd
  there := fun ab' R' => by rw [R.uniq R']; exact h2
theorem ecc_ex (F : IsFree n ls) {v : Nat} (hv : v < n) : ∃ e, Ecc n ls v e := by
  have R := at_spec F hv
  obtain ⟨hl, ⟨rk, T⟩, _⟩ := id R
  have hd : ∀ k, k < n → ∃ d, Dep (At n ls v) k d := fun k hk => by
    obtain ⟨d, h, _⟩ := T.dep (rk k) k (Nat.le_refl _) (by omega)
    exact ⟨d, h⟩
  have go : ∀ m, m ≤ n → 0 < m → ∃ e, (∀ k d, k < m → Dep (At n ls v) k d → d ≤ e) ∧ ∃ k, k < m ∧ Dep (At n ls v) k e := by
    intro m
    induction m with
    | zero => intro _ h; omega
    | succ m ih =>
      intro hm _
      obtain ⟨d, hdm⟩ := hd m (by omega)
      by_cases hz : 0 < m
      · obtain ⟨e, h1, k, hk, h2⟩ := ih (by omega) hz
        by_cases c : d ≤ e
        · refine ⟨e, fun k' d' hk' h' => ?_, k, by omega, h2⟩
          by_cases q : k' = m
          · subst q
            rw [h'.det hdm]; exact c
          · exact h1 k' d' (by omega) h'
        · refine ⟨d, fun k' d' hk' h' => ?_, m, by omega, hdm⟩
          by_cases q : k' = m
          · subst q
            rw [h'.det hdm]; exact Nat.le_refl _
          · have := h1 k' d' (by omega) h'
            omega
      · refine ⟨d, fun k' d' hk' h' => ?_, m, by omega, hdm⟩
        have q : k' = m := by omega
        subst q
        rw [h'.det hdm]; exact Nat.le_refl _
  obtain ⟨e, h1, h2⟩ := go n (Nat.le_refl _) (by omega)
  exact ⟨e, ecc_of R h1 h2⟩
theorem ecc_spec (F : IsFree n ls) {v : Nat} (hv : v < n) : Ecc n ls v (ecc n ls v) := Classical.epsilon_spec (ecc_ex F hv)
theorem ecc_eq (F : IsFree n ls) {v e : Nat} (hv : v < n) (h : Ecc n ls v e) : ecc n ls v = e := Ecc.det F hv (ecc_spec F hv) h
noncomputable def mids (n : Nat) (ls : Ln) : List Nat := (List.range n).filter fun v => (List.range n).all fun w => decide (ecc n ls v ≤ ecc n ls w)
theorem mem_mids {v : Nat} : v ∈ mids n ls ↔ v < n ∧ ∀ w, w < n → ecc n ls v ≤ ecc n ls w := by
  unfold mids
  rw [List.mem_filter, List.mem_range, List.all_eq_true]
  constructor
  · rintro ⟨h1, h2⟩
    exact ⟨h1, fun w hw => of_decide_eq_true (h2 w (List.mem_range.mpr hw))⟩
  · rintro ⟨h1, h2⟩
    exact ⟨h1, fun w hw => decide_eq_true (h2 w (List.mem_range.mp hw))⟩
theorem mids_nodup : (mids n ls).Nodup := List.nodup_range.filter _
theorem mids_lt {v : Nat} (h : v ∈ mids n ls) : v < n := (mem_mids.mp h).1
theorem mids_len : (mids n ls).length ≤ n := by
  unfold mids
  refine Nat.le_trans (List.length_filter_le _ _) ?_
  rw [List.length_range]
  exact Nat.le_refl _
theorem min_ex (f : Nat → Nat) : ∀ m, 0 < m → ∃ v, v < m ∧ ∀ w, w < m → f v ≤ f w
  | 0, h => by omega
  | m + 1, _ => by
    by_cases hz : 0 < m
    · obtain ⟨v, hv, h⟩ := min_ex f m hz
      by_cases c : f v ≤ f m
      · refine ⟨v, by omega, fun w hw => ?_⟩
        by_cases q : w = m
        · rw [q]; exact c
        · exact h w (by omega)
      · refine ⟨m, by omega, fun w hw => ?_⟩
        by_cases q : w = m
        · rw [q]; exact Nat.le_refl _
        · have := h w (by omega); omega
    · refine ⟨m, by omega, fun w hw => ?_⟩
      rw [show w = m by omega]
      exact Nat.le_refl _
theorem mids_ne (hn : 0 < n) : mids n ls ≠ [] := fun z => by
  obtain ⟨v, hv, h⟩ := min_ex (ecc n ls) n hn
  have : v ∈ mids n ls := mem_mids.mpr ⟨hv, h⟩
  rw [z] at this
  cases this
theorem mids_joined (F : IsFree n ls) {u v : Nat} (hu : u ∈ mids n ls) (hv : v ∈ mids n ls) (hne : u ≠ v) : v ∈ near ls u := by
  obtain ⟨h1, h2⟩ := mem_mids.mp hu
  obtain ⟨h3, h4⟩ := mem_mids.mp hv
  have e : ecc n ls v = ecc n ls u := Nat.le_antisymm (h4 u h1) (h2 v h3)
  have ev := ecc_spec F h3
  rw [e] at ev
  refine middles_joined F h1 h3 hne (ecc_spec F h1) ev fun w e' hw he => ?_
  rw [← ecc_eq F hw he]
  exact h2 w hw
theorem mids_cases (F : IsFree n ls) (hn : 0 < n) : (∃ m, mids n ls = [m]) ∨ ∃ a b, mids n ls = [a, b] ∧ a ≠ b ∧ b ∈ near ls a := by
  have hne := mids_ne (ls := ls) hn
  have nd := mids_nodup (n := n) (ls := ls)
  have hj : ∀ {u v}, u ∈ mids n ls → v ∈ mids n ls → u ≠ v → v ∈ near ls u := fun hu hv h => mids_joined F hu hv h
  have hlt : ∀ v ∈ mids n ls, v < n := fun v hv => mids_lt hv
  generalize mids n ls = l at hne nd hj hlt
  match l, hne, nd with
  | [m], _, _ => exact .inl ⟨m, rfl⟩
  | [a, b], _, nd =>
    have hab : a ≠ b := fun z => by rw [z] at nd; simp at nd
    exact .inr ⟨a, b, rfl, hab, hj (by simp) (by simp) hab⟩
  | a :: b :: c :: t, _, nd =>
    exfalso
    have hab : a ≠ b := fun z => by rw [z] at nd; simp at nd
    have hac : a ≠ c := fun z => by rw [z] at nd; simp at nd
    have hbc : b ≠ c := fun z => by rw [z] at nd; simp at nd
    have h1 := hj (u := a) (v := b) (by simp) (by simp) hab
    have h2 := hj (u := a) (v := c) (by simp) (by simp) hac
    have h3 := hj (u := b) (v := c) (by simp) (by simp) hbc
    have ha := hlt a (by simp)
    have R := at_spec F ha
    have k1 := R.kid h1 ha
    have k2 := R.kid h2 ha
    obtain ⟨hl, ⟨rk, T⟩, fo⟩ := id R
    have hb := hlt b (by simp)
    rcases (fo.joined (show b < (At n ls a).length by omega) c).mp h3 with z | z
    · rw [k2] at z
      exact hab (Option.some.inj (Option.some.inj z))
    · rw [k1] at z
      exact hac (Option.some.inj (Option.some.inj z))
def dash (ts : List Tx) : Tx := match srt ts with
  | [s, t] => s ++ 45 :: t
  | _ => []
theorem dash_perm {ss ts : List Tx} (h : ss.Perm ts) : dash ss = dash ts := by unfold dash; rw [srt_congr h]
noncomputable def ff (n : Nat) (ls : Ln) : Tx := match mids n ls with
  | [a, b] => dash [br n ls b a, br n ls a b]
  | m :: _ => rf n ls m
  | [] => []
theorem ff_one {m : Nat} (h : mids n ls = [m]) : ff n ls = rf n ls m := by unfold ff; rw [h]
theorem ff_two {a b : Nat} (h : mids n ls = [a, b]) : ff n ls = dash [br n ls b a, br n ls a b] := by unfold ff; rw [h]
theorem Renum.dep {ab ab' : Ab} {mt : List Nat} (R : Renum ab ab' mt) {k d : Nat} (hk : k < ab.length) (h : Dep ab k d) : Dep ab' (mt.getD k 0) d := by
  have at1 : ∀ j, j < ab.length → ab'[mt.getD j 0]? = some ((ab[j]?.getD none).map fun p => mt.getD p 0) := fun j hj => by
    refine R.at' j _ ?_
    rw [List.getD_eq_getElem?_getD, List.getElem?_eq_getElem (by rw [R.nlen]; exact hj)]
    rfl
  induction h with
  | root e =>
    refine .root ?_
    rw [at1 _ hk, e]
    rfl
  | up e _ ih =>
    refine .up ?_ (ih (R.par _ _ e))
    rw [at1 _ hk, e]
    rfl
theorem perm_onto {mt : List Nat} (hp : mt.Perm (List.range n)) {x : Nat} (hx : x < n) : ∃ j, j < n ∧ mt.getD j 0 = x := by
  have h1 : x ∈ mt := hp.mem_iff.mpr (List.mem_range.mpr hx)
  obtain ⟨j, hj, e⟩ := List.getElem_of_mem h1
  have hl : mt.length = n := by rw [hp.length_eq, List.length_range]
  exact ⟨j, by omega, by rw [List.getD_eq_getElem?_getD, List.getElem?_eq_getElem hj, e]; rfl⟩
theorem ecc_joins (F : IsFree n ls) (F' : IsFree n ls') {mt : List Nat} (hp : mt.Perm (List.range n)) (J : Joins ls ls' mt) {v : Nat} (hv : v < n) : ecc n ls' (mt.getD v 0) = ecc n ls v := by
  have hw := (perm_lt hp hv).2
  refine ecc_eq F' hw ?_
  have Rn := (joins_iff F F' hp hv).mp J
  have R := at_spec F hv
  have R' := at_spec F' hw
  obtain ⟨hl, ⟨rk, T⟩, _⟩ := id R
  have E := ecc_spec F hv
  refine ecc_of R' (fun k d hk hd => ?_) ?_
  · obtain ⟨j, hj, e⟩ := perm_onto hp hk
    obtain ⟨d0, h0, _⟩ := T.dep (rk j) j (Nat.le_refl _) (by omega)
    have h1 := Rn.dep (by omega) h0
    rw [e] at h1
    rw [hd.det h1]
    exact E.most _ _ _ R hj h0
  · obtain ⟨k, hk, hd⟩ := E.there _ R
    exact ⟨mt.getD k 0, (perm_lt hp hk).2, Rn.dep (by omega) hd⟩
theorem mids_joins (F : IsFree n ls) (F' : IsFree n ls') {mt : List Nat} (hp : mt.Perm (List.range n)) (J : Joins ls ls' mt) : (mids n ls').Perm ((mids n ls).map fun v => mt.getD v 0) := by
  have inj : ∀ {i j : Nat}, i < n → j < n → mt.getD i 0 = mt.getD j 0 → i = j := fun {i j} hi hj h => by
    have nd : mt.Nodup := hp.nodup_iff.mpr List.nodup_range
    have hl : mt.length = n := by rw [hp.length_eq, List.length_range]
    have e1 := (perm_lt hp hi).1
    have e2 := (perm_lt hp hj).1
    rw [h] at e1
    exact (List.getElem?_inj (show i < mt.length by omega) nd).mp (e1.trans e2.symm)
  refine (List.perm_ext_iff_of_nodup mids_nodup ?_).mpr fun x => ?_
  · refine List.pairwise_map.mpr ?_
    have h := mids_nodup (n := n) (ls := ls)
    rw [List.nodup_iff_pairwise_ne] at h
    exact List.Pairwise.imp_of_mem (fun hi hj hne e => hne (inj (mids_lt hi) (mids_lt hj) e)) h
  · rw [List.mem_map]
    constructor
    · intro hx
      obtain ⟨h1, h2⟩ := mem_mids.mp hx
      obtain ⟨j, hj, e⟩ := perm_onto hp h1
      refine ⟨j, mem_mids.mpr ⟨hj, fun w hw => ?_⟩, e⟩
      have h3 := h2 _ (perm_lt hp hw).2
      rw [← e, ecc_joins F F' hp J hj, ecc_joins F F' hp J hw] at h3
      exact h3
    · rintro ⟨j, hj, rfl⟩
      obtain ⟨h1, h2⟩ := mem_mids.mp hj
      refine mem_mids.mpr ⟨(perm_lt hp h1).2, fun w hw => ?_⟩
      obtain ⟨i, hi, rfl⟩ := perm_onto hp hw
      rw [ecc_joins F F' hp J h1, ecc_joins F F' hp J hi]
      exact h2 i hi
theorem br_joins (F : IsFree n ls) (F' : IsFree n ls') {mt : List Nat} (hp : mt.Perm (List.range n)) (J : Joins ls ls' mt) {b k : Nat} (hb : b < n) (hk : k < n) : br n ls' (mt.getD b 0) (mt.getD k 0) = br n ls b k := by
  have Rn := (joins_iff F F' hp hb).mp J
  obtain ⟨hl, _, _⟩ := at_spec F hb
  exact Rn.fm (by omega)
theorem ff_joins (F : IsFree n ls) (F' : IsFree n ls') {mt : List Nat} (hp : mt.Perm (List.range n)) (J : Joins ls ls' mt) (hn : 0 < n) : ff n ls' = ff n ls := by
  have hm := mids_joins F F' hp J
  rcases mids_cases F hn with ⟨m, e⟩ | ⟨a, b, e, hab, hj⟩
  · rw [e] at hm
    have e' : mids n ls' = [mt.getD m 0] := by simpa using hm
    have hml : m < n := mids_lt (ls := ls) (by rw [e]; simp)
    rw [ff_one e, ff_one e', rf_joins F F' hp J hml]
  · have ha : a < n := mids_lt (ls := ls) (by rw [e]; simp)
    have hb : b < n := mids_lt (ls := ls) (by rw [e]; simp)
    rw [e] at hm
    have hl := hm.length_eq
    rcases mids_cases F' hn with ⟨m', e'⟩ | ⟨a', b', e', hab', hj'⟩
    · rw [e'] at hl; simp at hl
    · rw [ff_two e, ff_two e']
      rw [e'] at hm
      have ha' : a' = mt.getD a 0 ∨ a' = mt.getD b 0 := by
        have := hm.mem_iff (a := a')
        simpa using this
      have hb' : b' = mt.getD a 0 ∨ b' = mt.getD b 0 := by
        have := hm.mem_iff (a := b')
        simpa using this
      rcases ha' with h1 | h1
      · rcases hb' with h2 | h2
        · exact absurd (h1.trans h2.symm) hab'
        · rw [h1, h2, br_joins F F' hp J hb ha, br_joins F F' hp J ha hb]
      · rcases hb' with h2 | h2
        · rw [h1, h2, br_joins F F' hp J hb ha, br_joins F F' hp J ha hb]
          exact dash_perm (List.Perm.swap _ _ _)
        · exact absurd (h1.trans h2.symm) hab'
theorem joins_anew {nm : List Nat} : Joins ls (anewL ls nm) nm := fun p hp => near_anew (mem_near.mpr (.inl hp))
end
end KM


set_option linter.all false
namespace KM
theorem dep_fn {ab : Ab} {r : Nat} {rk : Nat → Nat} (T : Tree ab r rk) : ∃ dp : Nat → Nat, ∀ k, k < ab.length → Dep ab k (dp k) :=
  ⟨fun k => if h : k < ab.length then Classical.choose (T.dep (rk k) k (Nat.le_refl _) h) else 0, fun k hk => by
    show Dep ab k (dite _ _ _)
    rw [dif_pos hk]
    exact (Classical.choose_spec (T.dep (rk k) k (Nat.le_refl _) hk)).1⟩
theorem exists_most : ∀ (l : List Nat), l ≠ [] → ∃ m, m ∈ l ∧ ∀ x ∈ l, x ≤ m
  | [], h => absurd rfl h
  | [a], _ => ⟨a, List.mem_singleton.mpr rfl, fun x hx => by rw [List.mem_singleton.mp hx]; exact Nat.le_refl _⟩
  | a :: b :: t, _ => by
    obtain ⟨m, hm, hle⟩ := exists_most (b :: t) (by simp)
    by_cases c : a ≤ m
    · refine ⟨m, List.mem_cons_of_mem _ hm, fun x hx => ?_⟩
      rcases List.mem_cons.mp hx with rfl | hx
      · exact c
      · exact hle x hx
    · refine ⟨a, List.mem_cons_self, fun x hx => ?_⟩
      rcases List.mem_cons.mp hx with rfl | hx
      · exact Nat.le_refl _
      · have := hle x hx; omega
theorem GB.par_at {ls : Ln} {n v pl : Nat} {ord : List Nat} {pa : Nat → Option Nat} {ab : Ab} (B : GB ls n v ord pa pl) (R : RootedAt n ls v ab) (hv : v < n) : ∀ (j c : Nat), 0 < j → ord[j]? = some c → ∃ k, pa c = some k ∧ ab[c]? = some (some k) := by
  obtain ⟨hl, ⟨rk, T⟩, fo⟩ := R
  have go : ∀ (b j c : Nat), j ≤ b → 0 < j → ord[j]? = some c → ∃ k, pa c = some k ∧ ab[c]? = some (some k) := by
    intro b
    induction b with
    | zero => intro j c h1 h2; omega
    | succ b ih =>
      intro j c hjb hj hc
      obtain ⟨i, k, hi, hk, hp, hn⟩ := B.up j c hj hc
      refine ⟨k, hp, ?_⟩
      have hkl : k < n := B.lt k (List.mem_of_getElem? hk)
      rcases (fo.joined (show k < ab.length by omega) c).mp hn with z | z
      · exact z
      · exfalso
        by_cases hi0 : i = 0
        · subst hi0
          obtain ⟨t, ht⟩ := B.head
          rw [ht] at hk
          have : v = k := Option.some.inj hk
          subst this
          rw [T.root] at z
          cases z
        · obtain ⟨k', hp', hk'⟩ := ih i k (by omega) (by omega) hk
          rw [z] at hk'
          have hck : c = k' := Option.some.inj (Option.some.inj hk')
          obtain ⟨i', k2, hi', hk2, hp2, _⟩ := B.up i k (by omega) hk
          rw [hp'] at hp2
          have : k' = k2 := Option.some.inj hp2
          subst this
          rw [← hck] at hk2
          have hjl := (List.getElem?_eq_some_iff.mp hc).1
          have := (List.getElem?_inj hjl B.nd).mp (hc.trans hk2.symm)
          omega
  exact fun j c hj hc => go j j c (Nat.le_refl _) hj hc
theorem GB.dep_at {ls : Ln} {n v pl : Nat} {ord : List Nat} {pa : Nat → Option Nat} {ab : Ab} (B : GB ls n v ord pa pl) (R : RootedAt n ls v ab) (hv : v < n) {dp : Nat → Nat} (hdp : ∀ k, k < n → Dep ab k (dp k)) {k c : Nat} (hk : ord[pl]? = some k) (hc : c ∈ near ls k) (hn : c ∉ ord) (hcl : c < n) : dp c = dp k + 1 := by
  have B' := B.meet hk hc hn hcl
  have hle := (List.getElem?_eq_some_iff.mp hk).1
  obtain ⟨k', h1, h2⟩ := B'.par_at R hv ord.length c (by omega) (by rw [List.getElem?_append_right (Nat.le_refl _)]; simp)
  rw [if_pos rfl] at h1
  have : k = k' := Option.some.inj h1
  subst this
  have hkl : k < n := B.lt k (List.mem_of_getElem? hk)
  exact (hdp c hcl).det (.up h2 (hdp k hkl))
theorem dep_root {ab : Ab} {r : Nat} {rk : Nat → Nat} (T : Tree ab r rk) {d : Nat} (h : Dep ab r d) : d = 0 := h.det (.root T.root)
noncomputable def eccs (n : Nat) (ls : Ln) : List Nat := (List.range n).map (ecc n ls)
theorem eccs_len (n : Nat) (ls : Ln) : (eccs n ls).length = n := by unfold eccs; rw [List.length_map, List.length_range]
theorem eccs_get {n i : Nat} {ls : Ln} (h : i < n) : (eccs n ls)[i]? = some (ecc n ls i) := by unfold eccs; rw [List.getElem?_map, List.getElem?_range h]; rfl
theorem mem_eccs {n x : Nat} {ls : Ln} : x ∈ eccs n ls ↔ ∃ v, v < n ∧ ecc n ls v = x := by
  unfold eccs
  rw [List.mem_map]
  constructor
  · rintro ⟨v, hv, e⟩; exact ⟨v, List.mem_range.mp hv, e⟩
  · rintro ⟨v, hv, e⟩; exact ⟨v, List.mem_range.mpr hv, e⟩
noncomputable def midTo (n : Nat) (ls : Ln) (m i : Nat) : List Nat := (List.range i).filter fun v => decide (ecc n ls v = m)
theorem midTo_hit {n m i : Nat} {ls : Ln} (h : ecc n ls i = m) : midTo n ls m (i + 1) = midTo n ls m i ++ [i] := by
  unfold midTo
  rw [List.range_succ, List.filter_append]
  congr 1
  exact List.filter_cons_of_pos (p := fun v => decide (ecc n ls v = m)) (decide_eq_true h)
theorem midTo_miss {n m i : Nat} {ls : Ln} (h : ecc n ls i ≠ m) : midTo n ls m (i + 1) = midTo n ls m i := by
  unfold midTo
  rw [List.range_succ, List.filter_append]
  have e : [i].filter (fun v => decide (ecc n ls v = m)) = [] := List.filter_cons_of_neg (p := fun v => decide (ecc n ls v = m)) (by rw [decide_eq_false h]; exact Bool.false_ne_true)
  rw [e, List.append_nil]
theorem midTo_len (n m i : Nat) (ls : Ln) : (midTo n ls m i).length ≤ i := by
  unfold midTo
  refine Nat.le_trans (List.length_filter_le _ _) ?_
  rw [List.length_range]
  exact Nat.le_refl _
theorem midTo_all {n m : Nat} {ls : Ln} (h1 : m ∈ eccs n ls) (h2 : ∀ x ∈ eccs n ls, m ≤ x) : midTo n ls m n = mids n ls := by
  unfold midTo mids
  refine List.filter_congr fun v hv => ?_
  have hv := List.mem_range.mp hv
  rw [Bool.eq_iff_iff, decide_eq_true_iff, List.all_eq_true]
  obtain ⟨u, hu, e⟩ := mem_eccs.mp h1
  constructor
  · intro h w hw
    refine decide_eq_true ?_
    rw [h]
    exact h2 _ (mem_eccs.mpr ⟨w, List.mem_range.mp hw, rfl⟩)
  · intro h
    have h3 := of_decide_eq_true (h u (List.mem_range.mpr hu))
    have h4 := h2 _ (mem_eccs.mpr ⟨v, hv, rfl⟩)
    omega
theorem least_ecc {n : Nat} (ls : Ln) (hn : 0 < n) : ∃ m, m ∈ eccs n ls ∧ ∀ x ∈ eccs n ls, m ≤ x := by
  obtain ⟨v, hv, h⟩ := min_ex (ecc n ls) n hn
  refine ⟨_, mem_eccs.mpr ⟨v, hv, rfl⟩, fun x hx => ?_⟩
  obtain ⟨w, hw, rfl⟩ := mem_eccs.mp hx
  exact h w hw
end KM
namespace KM
theorem br_len {n : Nat} {ls : Ln} (F : IsFree n ls) {a b : Nat} (h : b ∈ near ls a) : (br n ls a b).length ≤ 2 * n * n := by
  obtain ⟨hb, ha⟩ := F.near_lt h
  have R := at_spec F ha
  have hk := R.kid h ha
  obtain ⟨hl, _, _⟩ := id R
  have h1 := fm_kids_len (At n ls a) a
  rw [hl] at h1
  refine Nat.le_trans (mem_le_sum (List.mem_map.mpr ⟨b, mem_kids.mpr hk, rfl⟩)) h1
end KM
namespace KM
section
variable {ab : Ab} {r : Nat} {rk : Nat → Nat} {ls : Ln}
theorem par_len (T : Tree ab r rk) {k : Nat} (hk : k < ab.length) : (par ab k).length = if k = r then 0 else 1 := by
  by_cases e : k = r
  · subst e
    rw [if_pos rfl]
    unfold par
    rw [T.root]
    rfl
  · rw [if_neg e]
    unfold par
    cases h : ab[k]? with
    | none => rw [List.getElem?_eq_none_iff] at h; omega
    | some o =>
      cases o with
      | none => exact absurd (T.only k h) e
      | some p => rfl
theorem kids_near (T : Tree ab r rk) (f : FreeOf ab ls) {k : Nat} (hk : k < ab.length) (p : Nat → Bool) (hp : ∀ c, c < ab.length → (p c = true ↔ ab[c]? = some (some k))) : (near ls k).length = ((near ls k).filter p).length + if k = r then 0 else 1 := by
  rw [← par_len T hk, (f.near hk).length_eq, ((f.near hk).filter p).length_eq, List.filter_append, List.length_append, List.length_append]
  have e1 : (kids ab k).filter p = kids ab k := List.filter_eq_self.mpr fun c hc => (hp c (kids_lt hc)).mpr (mem_kids.mp hc)
  have e2 : (par ab k).filter p = [] := List.filter_eq_nil_iff.mpr fun c hc z => by
    have h1 := mem_par.mp hc
    have h2 := (T.up k c h1).1
    have h3 := (T.up c k ((hp c h2).mp z)).2
    have h4 := (T.up k c h1).2
    omega
  rw [e1, e2, List.length_nil, Nat.add_zero]
theorem mids_pw {n : Nat} {ls : Ln} : (mids n ls).Pairwise (· < ·) := List.pairwise_lt_range.filter _
end
end KM


set_option Elab.async false
set_option linter.all false
set_option maxRecDepth 100000
namespace L2
open PySem PySem.Spec PyProof.Rows
theorem comp_enumF {K : PySem.W.Frag} {a : Addr} {xs : List V} {js : List (Option Nat)} {g : TG} {ti : TT} {te : TE} {σ : St} {H1 : Hp} {Q : VK} (Pv : Addr → Nat → List V → St → Hp → Prop)
    (h0 : ∀ D, H1 D = none → Pv D 0 [] (outSt js σ) (upd H1 D (.lst []))) (hl : ∀ D i ys τ H, i ≤ xs.length → Pv D i ys τ H → SqL K H a xs)
    (hs : ∀ D (i : Nat) x p ys τ H, xs[i]? = some x → Pv D i ys τ H → H p = none → g (.ref p) τ (upd H p (.tup [.int i, x])) fun τ2 H2 => ti τ2 H2 fun b H3 =>
      if b = true then te τ2 H3 fun y H4 => H4 D = some (.lst ys) ∧ ys.length < sizeLine ∧ Nx xs.length i (Pv D (i + 1) (ys ++ [y]) τ2 (upd H4 D (.lst (ys ++ [y]))))
      else Nx xs.length i (Pv D (i + 1) ys τ2 H3))
    (hd : ∀ D ys τ H, Pv D xs.length ys τ H → Q (.ref D) H) : CompW (Ite K a) js g ti te σ H1 Q := by
  intro D hD
  refine ⟨fun i m ys τ H => m = xs.length - i ∧ i ≤ xs.length ∧ Pv D i ys τ H, ⟨xs.length, by simp, Nat.zero_le _, h0 D hD⟩, ?_⟩
  rintro i m ys τ H ⟨rfl, hi, p⟩
  have q := hl D i ys τ H hi p
  by_cases hlt : i < xs.length
  · refine .inr ⟨⟨xs, xs[i], q, by simp [hlt]⟩, fun x H' y => ?_⟩
    obtain ⟨pp, z, rfl, hp, rfl, hz⟩ := y
    exact hs D i z pp ys τ _ (hz xs q) p hp
  · have e : i = xs.length := by omega
    subst e
    exact .inl ⟨⟨xs, q, Nat.le_refl _⟩, hd D ys τ H p⟩
section
variable {X : Cx} {N' : List Str} {scope : Scope} {cl : List (Str × Addr)} {C : Addr} {s₀ : Shared} {H₀ : Hp} {fp : List Addr}
theorem call_minLC (hc : X.calm = true) : CallR (compCx X N' scope cl C s₀ H₀ fp) (.builtin "min") (rMinL X.K) := call_minL (X := compCx X N' scope cl C s₀ H₀ fp) hc
end
end L2
namespace KD
open PySem L2 KM PyProof.Rows
theorem dashS : (Str.ofString "-") = mkS [45] := by decide +kernel
theorem join_dash (s t : Tx) : Txt.join (Str.ofString "-") [mkS s, mkS t] = mkS (s ++ 45 :: t) := by
  show Builtin.Str.glued _ _ = _
  rw [StrLaws.glued_eq_join, dashS]
  show mkS s ++ mkS [45] ++ mkS t = _
  rw [mkS_app, mkS_app, List.append_assoc]
  rfl
theorem srt_two (s t : Tx) : ∃ a b, srt [s, t] = [a, b] ∧ a.length + b.length = s.length + t.length := by
  have hp := srt_perm [s, t]
  have hl := hp.length_eq
  have hs := (hp.map (·.length)).sum_nat
  match srt [s, t], hl, hs with
  | [a, b], _, hs => exact ⟨a, b, rfl, by simpa using hs⟩
theorem dash_two {s t a b : Tx} (h : srt [s, t] = [a, b]) : dash [s, t] = a ++ 45 :: b := by unfold dash; rw [h]
theorem kvW_put {ord : List Nat} {pa : Nat → Option Nat} {c : Nat} (h : c ∉ ord) : putK (kvW ord pa) (.inl (c : Int)) (vO (pa c)) = kvW (ord ++ [c]) pa := by
  rw [putK_new _ (kvW_none.mpr h)]
  unfold kvW
  rw [List.map_append]
  rfl
theorem kvW_vals (ord : List Nat) (dp : Nat → Nat) : (kvW ord fun k => some (dp k)).map (·.2) = ((ord.map dp).map fun n : Nat => (n : Int)).map V.int := by
  unfold kvW
  rw [List.map_map, List.map_map, List.map_map]
  rfl
theorem vN_int (l : List Nat) : l.map vN = (l.map fun n : Nat => (n : Int)).map V.int := by rw [List.map_map]; rfl
theorem not_mem_take {α : Type} {l : List α} {i : Nat} {x : α} (nd : l.Nodup) (h : l[i]? = some x) : x ∉ l.take i := fun z => by
  obtain ⟨j, hj⟩ := List.mem_iff_getElem?.mp z
  rw [List.getElem?_take] at hj
  split at hj
  · rename_i hji
    have hjl := (List.getElem?_eq_some_iff.mp hj).1
    have := (List.getElem?_inj hjl nd).mp (hj.trans h.symm)
    omega
  · cases hj
theorem mem_take_of {α : Type} {l : List α} {i j : Nat} {x : α} (h : l[j]? = some x) (hj : j < i) : x ∈ l.take i := by
  refine List.mem_iff_getElem?.mpr ⟨j, ?_⟩
  rw [List.getElem?_take, if_pos hj]
  exact h
def spFarness (C : Addr) : Sp := fun vs H Q E => ∃ (b : Addr) (bs : List Addr) (n v : Nat) (ls : Ln), vs = [.ref b, vN v] ∧ BesideAt H b bs n ls ∧ v < n ∧ n ≤ 100 ∧ ls.length + 1 = n ∧ (∀ p ∈ ls, p.1 < n ∧ p.2 < n) ∧
  (IsFree n ls → ∀ H', Same H H' → Q (vN (ecc n ls v)) H') ∧ (¬ IsFree n ls → ∀ H', Same H H' → E (.ref C) none H')
def spMiddles (C : Addr) : Sp := fun vs H Q E => ∃ (t L : Addr) (ps : List Addr) (c : Int) (li : LI), vs = [.ref t] ∧ TreeAt H t L ps c li ∧ li.length ≤ 60 ∧
  (FreeL c li → ∀ (p : Addr) (H' : Hp), Same H H' → H p = none → H' p = some (.lst ((mids (li.length + 1) (ofL li)).map vN)) → Q (.ref p) H') ∧ (¬ FreeL c li → ∀ H', Same H H' → E (.ref C) none H')
def spFreeForm (C : Addr) : Sp := fun vs H Q E => ∃ (t L : Addr) (ps : List Addr) (c : Int) (li : LI), vs = [.ref t] ∧ TreeAt H t L ps c li ∧ li.length ≤ 60 ∧
  (FreeL c li → ∀ (H' : Hp), Same H H' → Q (vT (ff (li.length + 1) (ofL li))) H') ∧ (¬ FreeL c li → ∀ H', Same H H' → E (.ref C) none H')
def spMiddlesQ : Sp := fun vs H Q _ => ∃ (t L : Addr) (ps : List Addr) (n : Nat) (ls : Ln), vs = [.ref t] ∧ TreeAt H t L ps (n : Int) (toL ls) ∧ IsFree n ls ∧ n ≤ 60 ∧ ∀ (p : Addr) (H' : Hp), Same H H' → H p = none → H' p = some (.lst ((mids n ls).map vN)) → Q (.ref p) H'
theorem middles_quiet {C : Addr} : ∀ (vs : List V) (H : Hp) (Q : VK) (E : XK), spMiddlesQ vs H Q E → spMiddles C vs H Q E0 := by
  rintro vs H Q E ⟨t, L, ps, n, ls, rfl, G, F, hn, q⟩
  obtain ⟨hF, hl⟩ := freeL_of F
  refine ⟨t, L, ps, _, _, rfl, G, by omega, fun _ p H' s hp ep => ?_, fun h => absurd hF h⟩
  rw [hl, ofL_toL] at ep
  exact q p H' s hp ep
def spFreeFormQ : Sp := fun vs H Q _ => ∃ (t L : Addr) (ps : List Addr) (n : Nat) (ls : Ln), vs = [.ref t] ∧ TreeAt H t L ps (n : Int) (toL ls) ∧ IsFree n ls ∧ n ≤ 60 ∧ ∀ (H' : Hp), Same H H' → Q (vT (ff n ls)) H'
theorem freeform_quiet {C : Addr} : ∀ (vs : List V) (H : Hp) (Q : VK) (E : XK), spFreeFormQ vs H Q E → spFreeForm C vs H Q E0 := by
  rintro vs H Q E ⟨t, L, ps, n, ls, rfl, G, F, hn, q⟩
  obtain ⟨hF, hl⟩ := freeL_of F
  refine ⟨t, L, ps, _, _, rfl, G, by omega, fun _ H' s => ?_, fun h => absurd hF h⟩
  rw [hl, ofL_toL]
  exact q H' s
def spFarAt : Sp := fun vs H Q _ => ∃ (b : Addr) (bs : List Addr) (n v : Nat) (ls : Ln), vs = [.ref b, vN v] ∧ BesideAt H b bs n ls ∧ IsFree n ls ∧ v < n ∧ n ≤ 100 ∧ ∀ H', Same H H' → Q (vN (ecc n ls v)) H'
def spMidsBy : Sp := fun vs H Q _ => ∃ (b : Addr) (bs : List Addr) (n : Nat) (ls : Ln), vs = [.ref b] ∧ BesideAt H b bs n ls ∧ IsFree n ls ∧ 0 < n ∧ n ≤ 100 ∧ ∀ (p : Addr) (H' : Hp), Same H H' → H p = none → H' p = some (.lst ((mids n ls).map vN)) → Q (.ref p) H'
def spFreeText : Sp := fun vs H Q _ => ∃ (b : Addr) (bs : List Addr) (n : Nat) (ls : Ln), vs = [.ref b] ∧ BesideAt H b bs n ls ∧ IsFree n ls ∧ 0 < n ∧ n < 64 ∧ ∀ (H' : Hp), Same H H' → Q (vT (ff n ls)) H'
theorem sorted_mids {n : Nat} {ls : Ln} {ns : List Int} (hp : ns.Perm ((mids n ls).map fun k : Nat => (k : Int))) (hs : ns.Pairwise (· ≤ ·)) : ns = (mids n ls).map fun k : Nat => (k : Int) := by
  refine List.Perm.eq_of_pairwise (le := fun a b : Int => a ≤ b) (fun a b _ _ h1 h2 => by omega) hs ?_ hp
  refine List.pairwise_map.mpr ?_
  exact (mids_pw (n := n) (ls := ls)).imp fun h => by omega
theorem inV_vN (p : Nat) (l : List Nat) : inV (vN p) (l.map vN) = decide (p ∈ l) := by
  unfold inV
  rw [Bool.eq_iff_iff, List.any_eq_true, decide_eq_true_iff]
  constructor
  · rintro ⟨y, hy, e⟩
    obtain ⟨j, hj, rfl⟩ := List.mem_map.mp hy
    have e' : ((j : Int) == (p : Int)) = true := e
    have : (j : Int) = (p : Int) := by simpa using e'
    rw [show p = j by omega]
    exact hj
  · intro h
    exact ⟨vN p, List.mem_map_of_mem h, eqV_self rfl⟩
end KD


set_option Elab.async false
set_option linter.all false
set_option maxRecDepth 100000
set_option maxHeartbeats 4000000
namespace K09
open PySem L2 KM KD PyProof.Rows
def top (i : Nat) : Stmt := PySem.Challenge.pw_shapekin_k09_whole_free_forms.main.body.getD i (.Pass ⟨0, 0, 0, 0⟩)
abbrev sForm : Stmt := top 5
abbrev sKnotForms : Stmt := top 6
abbrev sOver : Stmt := top 7
abbrev sRoot : Stmt := top 8
abbrev sUnder : Stmt := top 9
abbrev sDown : Stmt := top 10
abbrev sMiddles : Stmt := top 12
abbrev sRootedAt : Stmt := top 13
abbrev sFreeForm : Stmt := top 14
abbrev sFarness : Stmt := top 15
abbrev sHungUp : Stmt := top 16
abbrev sWalked : Stmt := top 17
abbrev sKnotsBeside : Stmt := top 18
abbrev sUpto : Stmt := top 20
abbrev sWhole : Stmt := top 21
abbrev sAt : Stmt := top 22
abbrev sRooted : Stmt := top 23
abbrev sNames : Stmt := top 24
abbrev sLinesOf : Stmt := top 25
abbrev sAnew : Stmt := top 26
abbrev sNearOf : Stmt := top 27
abbrev sBranch : Stmt := top 28
abbrev sFarnessAt : Stmt := top 29
abbrev sMiddlesBy : Stmt := top 30
abbrev sFreeText : Stmt := top 31
abbrev sAreKnots : Stmt := top 32
abbrev sKeptWhole : Stmt := top 33
abbrev sLaw : Stmt := top 34
end K09


set_option Elab.async false
set_option linter.all false
set_option maxRecDepth 100000
set_option maxHeartbeats 4000000
namespace K09
open PySem L2 KM KD PyProof.Rows
section
variable {P : Program} {w : World} {K : PySem.W.Frag} {mg : Str → Option Value} {base : Heap} {f : Addr} {fd : FuncData}
theorem scOver : FnScope ["parts"] ["parts"] (defScope sOver) := ⟨rfl, rfl, rfl, by decide +kernel, rfl, by decide +kernel, by decide +kernel⟩
theorem ok_over (F : Fun K "form_over" "form_over" sOver f fd) (ms : mg "sorted" = none) : FnOk P w K mg base CX0 1 f fd ["parts"] spOver := by
  refine F.ok scOver (fun vs H Q E h => ?_) (fun cdv A outer s H vs Q E hr h => ?_)
  · obtain ⟨p, ts, rfl, _⟩ := h
    rfl
  obtain ⟨p, ts, rfl, hp, h64, hlen, q⟩ := h
  refine ⟨_, pss_one (ps_ret (pe_op op_add_str (pe_op op_add_str pe_str (pe_bm PySem.F.plainAttrs_str PySem.F.slot_str_join PySem.F.type_str_join mt_join pe_str
    (pa_cons (pe_callB call_sortedS rfl ms boot_sorted (pa_cons (pv 0) pa_nil)) pa_nil))) pe_str)), ?_⟩
  rw [← vT_map] at hp
  refine ⟨rfl, _, rfl, p, ts.map mkS, rfl, SqL.of hp, by rw [List.length_map]; exact h64, fun l ss' h1 h2 h3 => ?_⟩
  have es := sorted_is h1 h2
  subst es
  have el : (((srt ts).map mkS).map (·.length)).sum = (ts.map (·.length)).sum := by
    rw [len_vT]
    exact ((srt_perm ts).map _).sum_nat
  have ef : (mkS (srt ts).flatten).length = (ts.map (·.length)).sum := by rw [mkS_len, srt_len]
  have e0 : (Str.ofString "").length = 0 := by rw [ep]; rfl
  have e1 : (Str.ofString "(").length = 1 := by rw [lp]; rfl
  have e2 : (Str.ofString ")").length = 1 := by rw [rp]; rfl
  refine ⟨_, l, (srt ts).map mkS, rfl, rfl, SqL.of upd_same, ?_, ?_⟩
  · rw [el, e0]
    omega
  rw [join_is]
  refine ⟨_, _, rfl, rfl, ?_, _, _, rfl, rfl, ?_, ?_⟩
  · rw [ef, e1]
    exact small (by omega)
  · rw [Str.length_append, ef, e1, e2]
    exact small (by omega)
  rw [brk_is]
  exact q _ (same_new h3 _)
theorem scRoot : FnScope ["above", "roots"] ["above"] (defScope sRoot) := ⟨rfl, rfl, rfl, by decide +kernel, rfl, by decide +kernel, by decide +kernel⟩
theorem ndKU : (["knot", "upper"] : List Str).Nodup := by decide +kernel
theorem ok_rootX {C : Addr} (F : Fun K "root_of" "root_of" sRoot f fd) (me : mg "enumerate" = none) (ml : mg "len" = none) (mC : mg "NoTree" = some (.ref C)) (xc : XC K C) : FnOk P w K mg base (CXe P w) 1 f fd ["above"] (spRootX C) := by
  refine F.okX scRoot (fun vs H Q E h => ?_) (fun cdv A outer s H vs Q E hr h => ?_)
  · obtain ⟨a, A1, rfl, _⟩ := h
    rfl
  obtain ⟨a, A1, rfl, ha, hn, q, qe⟩ := h
  obtain ⟨ab, hab⟩ : ∃ ab : Ab, ab = A1.map ofI := ⟨_, rfl⟩
  have hlab : ab.length = A1.length := by rw [hab, List.length_map]
  refine ⟨_, pss_cons (ps_setComp (N' := ["knot", "upper"]) (js := [none, none]) (i := 1) scRoot.nd rfl (Or.inl rfl) (CompOk.plain rfl (by decide +kernel) (by decide +kernel) rfl (by decide)) rfl (pi_enum rfl me (pa_cons (pv 0) pa_nil))
      (fun _ _ _ _ => pg_tupC (n := 2) rfl (pgs_cons (pg_name (i := 0) ndKU rfl (Or.inl rfl)) (pgs_cons (pg_name (i := 1) ndKU rfl (Or.inl rfl)) pgs_nil))) (fun _ _ _ _ => pif_one (pt_cmp (pc_isN (pv 1)))) (fun _ _ _ _ => pv 0))
    (pss_cons (ps_if (pt_cmpR op_ne (pe_callB call_len_seq rfl ml PySem.boot_len (pa_cons (pv 1) pa_nil)) pe_int (nomark _)) (pss_one (ps_raise xc rfl xraise rfl mC (pa_cons pe_str pa_nil))) pss_nil)
    (pss_one (ps_ret (pe_ix ix_list (pv 1) pe_int (fun _ _ => rfl))))), ?_⟩
  refine ⟨_, rfl, a, rfl, ⟨_, SqL.of ha⟩, fun D hD => ?_⟩
  refine ⟨fun i m ys τ H2 => m = ab.length - i ∧ i ≤ ab.length ∧ ys = (rootsTo ab i).map vN ∧ (∃ o1 o2, τ = [o1, o2]) ∧ Same H H2 ∧ H2 D = some (.lst ys), ⟨ab.length, by simp, Nat.zero_le _, rfl, ⟨_, _, rfl⟩, same_new hD _, upd_same⟩, ?_⟩
  rintro i m ys τ H2 ⟨rfl, hi, rfl, ⟨o1, o2, rfl⟩, s2, e2⟩
  have hl : (A1.map vI).length = ab.length := by rw [List.length_map, hlab]
  by_cases hlt : i < ab.length
  · refine .inr ⟨⟨_, _, SqL.of (s2 _ _ ha), get_map (List.getElem?_eq_getElem (hlab ▸ hlt))⟩, fun x H' y => ?_⟩
    obtain ⟨p, z, rfl, hp, rfl, hz⟩ := y
    have ez := hz _ (SqL.of (s2 _ _ ha))
    rw [get_map (List.getElem?_eq_getElem (hlab ▸ hlt))] at ez
    cases ez
    refine ⟨p, _, rfl, SqT.of upd_same, rfl, _, _, rfl, _, _, rfl, rfl, _, rfl, _, rfl, ?_⟩
    have s3 : Same H (upd H2 p (.tup [.int i, vI A1[i]])) := s2.trans (same_new hp _)
    have e3 : (upd H2 p (.tup [.int i, vI A1[i]])) D = some (.lst ((rootsTo ab i).map vN)) := by rw [upd_ne (ne_of_none e2 hp)]; exact e2
    have hz := rootsTo_len ab i
    have hlA : i < A1.length := hlab ▸ hlt
    cases q' : A1[i] with
    | none =>
      have h0 : ab[i]? = some none := by rw [hab, none_of, List.getElem?_eq_getElem hlA, q']
      rw [q'] at s3 e3
      refine iteT ⟨_, rfl, e3, smallt (by rw [List.length_map]; omega), ab.length - (i + 1), by omega, rfl, hlt, ?_, ⟨_, _, rfl⟩, same_upd s3 hD _, upd_same⟩
      rw [rootsTo_hit h0, List.map_append]
      rfl
    | some k =>
      have h0 : ab[i]? ≠ some none := by rw [hab, ne_eq, none_of, List.getElem?_eq_getElem hlA, q']; intro z; cases z
      rw [q'] at s3 e3
      refine iteF ⟨ab.length - (i + 1), by omega, rfl, hlt, by rw [rootsTo_miss h0], ⟨_, _, rfl⟩, s3, e3⟩
  · have e : i = ab.length := by omega
    subst e
    refine .inl ⟨⟨_, SqL.of (s2 _ _ ha), by rw [hl]; exact Nat.le_refl _⟩, ?_⟩
    refine ⟨_, rfl, D, _, rfl, .inl (SqL.of e2), rfl, _, rfl, ?_⟩
    by_cases hr1 : ∃ r, Root1 A1 r
    · obtain ⟨r, hr1⟩ := hr1
      have hr2 : rootsTo ab ab.length = [r] := roots_one.mpr (by rw [hab]; exact Root1.of.mp hr1)
      rw [hr2] at e2 ⊢
      refine iteNS rfl ?_
      refine ⟨_, rfl, D, _, _, _, rfl, rfl, SqL.of e2, rfl, ?_⟩
      exact q r _ hr1 s2
    · have hz : ¬ V.int ((((rootsTo ab ab.length).map vN).length : Nat) : Int) = V.int 1 := fun z => by
        have z' := V.int.inj z
        rw [List.length_map] at z'
        obtain ⟨r, e⟩ := List.length_eq_one_iff.mp (show (rootsTo ab ab.length).length = 1 by omega)
        have := roots_one.mp e
        rw [hab] at this
        exact hr1 ⟨r, Root1.of.mpr this⟩
      rw [decide_eq_false hz]
      exact iteT ⟨(by show 1 ≤ sizeLine; decide), qe hr1 _ s2⟩
theorem scUnder : FnScope ["above", "under", "knot", "upper"] ["above"] (defScope sUnder) := ⟨rfl, rfl, rfl, by decide +kernel, rfl, by decide +kernel, by decide +kernel⟩
structure UnTo (H0 H : Hp) (u : Addr) (as : List Addr) (ab : Ab) (i : Nat) : Prop where
  same : Same H0 H
  top : H u = some (.lst (as.map V.ref))
  len : as.length = ab.length
  nd : as.Nodup
  new : ∀ c ∈ as, H0 c = none
  newu : H0 u = none
  each : ∀ (k : Nat) (c : Addr), as[k]? = some c → H c = some (.lst ((kidsTo ab k i).map vN))
theorem ndU : (["upper"] : List Str).Nodup := by decide +kernel
theorem ok_underX {C : Addr} (F : Fun K "knots_under" "knots_under" sUnder f fd) (me : mg "enumerate" = none) (ml : mg "len" = none) (mC : mg "NoTree" = some (.ref C)) (xc : XC K C) : FnOk P w K mg base (CXe P w) 1 f fd ["above"] (spUnderX C) := by
  refine F.okX scUnder (fun vs H Q E h => ?_) (fun cdv A outer s H vs Q E hr h => ?_)
  · obtain ⟨a, A1, rfl, _⟩ := h
    rfl
  obtain ⟨a, A1, rfl, ha, hn, q, qe⟩ := h
  obtain ⟨ab, hab⟩ : ∃ ab : Ab, ab = A1.map ofI := ⟨_, rfl⟩
  have hlab : ab.length = A1.length := by rw [hab, List.length_map]
  refine ⟨_, pss_cons (ps_setComp (N' := ["upper"]) (js := [none]) (i := 1) scUnder.nd rfl (Or.inl rfl) (CompOk.plain rfl (by decide +kernel) (by decide +kernel) rfl (by decide)) rfl (pi_list (pv 0))
      (fun _ _ _ _ => pg_name (i := 0) ndU rfl (Or.inl rfl)) (fun _ _ _ _ => pif_nil) (fun _ _ _ _ => pe_lst pa_nil))
    (pss_cons (ps_for ownX rfl (pi_enum rfl me (pa_cons (pv 0) pa_nil)) (pg_tup rfl (pgs_cons (pg_name (i := 2) scUnder.nd rfl (Or.inl rfl)) (pgs_cons (pg_name (i := 3) scUnder.nd rfl (Or.inl rfl)) pgs_nil)))
      (pss_one (ps_if (pt_cmp (pc_notN (pv 3)))
        (pss_cons (ps_if (PW.pt (pw_or (pt_cmpR op_lt (pv 3) pe_int (nomark _)) (pw_or1 (pt_cmpR op_ge (pv 3) (pe_callB call_len_seq rfl ml PySem.boot_len (pa_cons (pv 0) pa_nil)) (nomark _))))) (pss_one (ps_raise xc rfl xraise rfl mC (pa_cons pe_str pa_nil))) pss_nil)
        (pss_one (ps_expr (pe_bm PySem.F.plainAttrs_list PySem.F.slot_list_append PySem.F.type_list_append mt_append (pe_ix ix_list (pv 1) (pv 3) (fun _ _ => rfl)) (pa_cons (pv 2) pa_nil))))) pss_nil)))
    (pss_one (ps_ret (pv 1)))), ?_⟩
  have hl : (A1.map vI).length = ab.length := by rw [List.length_map, hlab]
  refine ⟨_, rfl, a, rfl, ⟨_, SqL.of ha⟩, ?_⟩
  refine comp_list (xs := A1.map vI) (fun D i ys τ H2 => (∃ o, τ = [o]) ∧ ∃ as : List Addr, ys = as.map V.ref ∧ as.Nodup ∧ Same H H2 ∧ H D = none ∧ H2 D = some (.lst ys) ∧ (∀ c ∈ as, H c = none ∧ H2 c = some (.lst []) ∧ c ≠ D)) (small (by rw [hl]; omega))
    (fun D hD => ⟨⟨_, rfl⟩, [], rfl, List.nodup_nil, same_new hD _, hD, upd_same, fun c hc => nomatch hc⟩) (fun D i ys τ H2 _ ⟨_, as, _, _, s2, _⟩ => SqL.of (s2 _ _ ha)) ?_ ?_ (fun _ _ _ _ _ h z => h _ _ z) (fun _ _ _ _ h z => ⟨z.1, fun p hp => h _ _ (z.2 p hp)⟩)
  · rintro D i x ys τ H2 hx hy ⟨⟨o, rfl⟩, as, rfl, nd, s2, hD, e2, each⟩
    refine ⟨(by show 0 ≤ sizeLine; decide), fun p hp => ?_⟩
    have hpD : D ≠ p := ne_of_none e2 hp
    refine ⟨by rw [upd_ne hpD]; exact e2, ⟨_, rfl⟩, as ++ [p], by rw [List.map_append]; rfl, ?_, ?_, hD, upd_same, fun c hc => ?_⟩
    · rw [List.nodup_append]
      refine ⟨nd, by simp, fun c hc c' hc' e => ?_⟩
      rw [List.mem_singleton] at hc'
      subst hc' e
      rw [(each _ hc).2.1] at hp
      cases hp
    · exact same_upd (s2.trans (same_new hp _)) hD _
    · rcases List.mem_append.mp hc with h | h
      · obtain ⟨h1, h2, h3⟩ := each c h
        exact ⟨h1, by rw [upd_ne h3, upd_ne (ne_of_none h2 hp)]; exact h2, h3⟩
      · rw [List.mem_singleton] at h
        subst h
        exact ⟨s2.free hp, by rw [upd_ne (Ne.symm hpD), upd_same], Ne.symm hpD⟩
  · rintro D ys τ H2 hy ⟨_, as, rfl, nd, s2, hD, e2, each⟩
    rw [hl, List.length_map] at hy
    have U0 : UnTo H H2 D as ab 0 := ⟨s2, e2, hy, nd, fun c hc => (each c hc).1, hD, fun k c h => (each c (List.mem_of_getElem? h)).2.1⟩
    refine ⟨_, rfl, a, rfl, ⟨_, SqL.of (s2 _ _ ha)⟩, for_enum (K := K) (a := a) (xs := A1.map vI) (fun i σ H3 => (∃ o1 o2, σ = [some (.ref a), some (.ref D), o1, o2]) ∧ (∀ (j : Nat) (z : Int), j < i → A1[j]? = some (some z) → 0 ≤ z ∧ z < A1.length) ∧ UnTo H H3 D as ab i) ⟨⟨_, _, rfl⟩, (fun j z h => absurd h (Nat.not_lt_zero _)), U0⟩ (fun i σ H3 _ ⟨_, _, U⟩ => SqL.of (U.same _ _ ha)) ?_ ?_⟩
    · rintro i x p σ H3 hx ⟨⟨o1, o2, rfl⟩, hin, U⟩ hp
      obtain ⟨o, hoA, rfl⟩ := of_map hx
      have ho : ab[i]? = some (ofI o) := by rw [hab, List.getElem?_map, hoA]; rfl
      have hil : i < ab.length := (List.getElem?_eq_some_iff.mp ho).1
      have one : (1 : Nat) ≤ sizeLine := by decide
      refine ⟨p, _, rfl, SqT.of upd_same, rfl, _, _, rfl, _, _, rfl, rfl, _, rfl, _, rfl, ?_⟩
      have up : ∀ b u, H3 b = some u → (upd H3 p (.tup [.int i, vI o])) b = some u := same_new hp _
      cases o with
      | none =>
        refine iteF ⟨⟨_, _, rfl⟩, (fun j z hj hz => (Nat.lt_succ_iff_lt_or_eq.mp hj).elim (fun hj => hin j z hj hz) fun e => by rw [e, hoA] at hz; cases hz), U.same.trans up, up _ _ U.top, U.len, U.nd, U.new, U.newu, fun k c h => ?_⟩
        rw [kidsTo_miss (by rw [ho]; intro z; cases z)]
        exact up _ _ (U.each k c h)
      | some z =>
        refine iteT ?_
        refine ⟨_, rfl, _, _, rfl, rfl, _, rfl, ?_⟩
        by_cases hz0 : z < 0
        · rw [decide_eq_true hz0]
          exact iteT (iteT ⟨one, qe (fun hI => absurd (hI i z hoA).1 (by omega)) _ (U.same.trans up)⟩)
        rw [decide_eq_false hz0]
        refine iteF ⟨_, rfl, _, rfl, a, _, rfl, .inl (SqL.of (up _ _ (U.same _ _ ha))), _, _, rfl, rfl, _, rfl, ?_⟩
        by_cases hzn : ((((A1.map vI).length : Nat) : Int) ≤ z)
        · rw [decide_eq_true hzn]
          exact iteT ⟨one, qe (fun hI => absurd (hI i z hoA).2 (by rw [List.length_map] at hzn; omega)) _ (U.same.trans up)⟩
        rw [decide_eq_false hzn]
        refine iteF ?_
        obtain ⟨k, rfl⟩ := Int.eq_ofNat_of_zero_le (show 0 ≤ z by omega)
        rw [hl] at hzn
        have hk : k < ab.length := by omega
        have hka : k < as.length := by rw [U.len]; exact hk
        have ho : ab[i]? = some (some k) := ho
        have hc : as[k]? = some as[k] := List.getElem?_eq_getElem hka
        have ec := U.each k _ hc
        refine ⟨_, rfl, _, rfl, D, _, _, _, rfl, rfl, SqL.of (up _ _ U.top), at_map hc, .inl ⟨rfl, _, SqL.of (up _ _ ec)⟩, _, rfl, as[k], _, _, rfl, rfl, up _ _ ec, ?_, ?_⟩
        · have := kidsTo_len ab k i
          rw [List.length_map]
          exact smallt (by omega)
        have hcn : H as[k] = none := U.new _ (List.getElem_mem hka)
        have hcD : D ≠ as[k] := ne_of U.top ec (by
          intro z
          have z' := HO.lst.inj z
          have l1 := congrArg List.length z'
          rw [List.length_map, List.length_map, U.len] at l1
          cases q1 : as with
          | nil => rw [q1] at hka; simp at hka
          | cons c0 r0 =>
            rw [q1, List.map_cons] at z'
            cases q2 : kidsTo ab k i with
            | nil => rw [q2] at z'; cases z'
            | cons d0 s0 => rw [q2, List.map_cons] at z'; cases z')
        refine ⟨⟨_, _, rfl⟩, (fun j z hj hz => (Nat.lt_succ_iff_lt_or_eq.mp hj).elim (fun hj => hin j z hj hz) fun e => by rw [e, hoA] at hz; cases hz; constructor <;> omega), same_upd (U.same.trans up) hcn _, by rw [upd_ne hcD]; exact up _ _ U.top, U.len, U.nd, U.new, U.newu, fun k' c' h => ?_⟩
        by_cases e : k' = k
        · subst e
          rw [hc] at h
          cases h
          rw [upd_same, kidsTo_hit ho, List.map_append]
          rfl
        · have hne : c' ≠ as[k] := by
            intro z
            obtain ⟨h1, e1⟩ := List.getElem?_eq_some_iff.mp h
            exact e ((List.getElem_inj U.nd).mp (e1.trans z))
          rw [upd_ne hne, kidsTo_miss (by rw [ho]; intro z; exact e (Option.some.inj (Option.some.inj z)).symm)]
          exact up _ _ (U.each k' c' h)
    · rintro σ H3 ⟨⟨o1, o2, rfl⟩, hin, U⟩
      rw [hl] at U hin
      have hI : InR A1 := fun j z h => hin j z (by rw [hlab]; exact (List.getElem?_eq_some_iff.mp h).1) h
      exact ⟨_, rfl, q hI D as H3 U.same (by rw [← hab]; exact ⟨U.top, U.len, fun i c h => by rw [← kidsTo_all]; exact U.each i c h⟩)⟩
theorem scDown : FnScope ["root", "under", "order", "place"] ["root", "under"] (defScope sDown) := ⟨rfl, rfl, rfl, by decide +kernel, rfl, by decide +kernel, by decide +kernel⟩
theorem ok_downK (F : Fun K "downward" "downward" sDown f fd) (ml : mg "len" = none) : FnOk P w K mg base CX0 1 f fd ["root", "under"] spDownK := by
  refine F.ok scDown (fun vs H Q E h => ?_) (fun cdv A outer s H vs Q E hr h => ?_)
  · obtain ⟨u, as, ab, kd, r, rfl, _⟩ := h
    rfl
  obtain ⟨u, as, ab, kd, r, rfl, U, hkd, T, hn, q⟩ := h
  refine ⟨_, pss_cons (ps_set (i := 2) scDown.nd rfl (Or.inl rfl) (pe_lst (pa_cons (pv 0) pa_nil)))
    (pss_cons (ps_set (i := 3) scDown.nd rfl (Or.inl rfl) pe_int)
    (pss_cons (ps_while PassesOwn.never (pt_cmpR op_lt (pv 3) (pe_callB call_len_seq rfl ml PySem.boot_len (pa_cons (pv 2) pa_nil)) (nomark _))
      (pss_cons (ps_expr (pe_bm PySem.F.plainAttrs_list PySem.F.slot_list_extend PySem.F.type_list_extend mt_extend (pv 2) (pa_cons (pe_ix ix_list (pv 1) (pe_ix ix_list (pv 2) (pv 3) (fun _ _ => rfl)) (fun _ _ => rfl)) pa_nil)))
      (pss_one (ps_set (i := 3) scDown.nd rfl (Or.inl rfl) (pe_op op_add (pv 3) pe_int)))))
    (pss_one (ps_ret (pv 2))))), ?_⟩
  refine ⟨_, rfl, (by show 1 ≤ sizeLine; decide), fun o ho => ?_⟩
  refine while_by (fun σ H2 => ∃ (ord : List Nat) (pl : Nat), σ = [some (vN r), some (.ref u), some (.ref o), some (vN pl)] ∧ Same H H2 ∧ H2 o = some (.lst (ord.map vN)) ∧ BfsK ab kd r ord pl)
    (fun σ _ => match σ with | [_, _, _, some (.int z)] => ab.length - z.toNat | _ => 0) ⟨[r], 0, rfl, same_new ho _, upd_same, bfsK0 T⟩ ?_ ?_
  · rintro σ H2 ⟨ord, pl, rfl, s2, e2, B⟩
    refine ⟨_, rfl, _, rfl, o, _, rfl, .inl (SqL.of e2), _, _, rfl, rfl, _, rfl, ?_⟩
    have hl : (ord.map vN).length = ord.length := List.length_map _
    refine ite2 (fun c => ?_) (fun c => ?_)
    · have c' := of_decide_eq_true c
      rw [hl] at c'
      have hp : pl < ord.length := by omega
      have hk : ord[pl]? = some ord[pl] := List.getElem?_eq_getElem hp
      have hkl : ord[pl] < ab.length := B.lt _ (List.getElem_mem hp)
      have hka : ord[pl] < as.length := by rw [U.len]; exact hkl
      have hc : as[ord[pl]]? = some as[ord[pl]] := List.getElem?_eq_getElem hka
      have ec := s2 _ _ (U.each _ _ hc)
      have B' := B.step T hkd hk
      have hbl := B'.len
      have hbl0 := B.len
      refine ⟨_, rfl, .inl ⟨rfl, _, SqL.of e2⟩, _, rfl, _, rfl, _, rfl, o, _, _, _, rfl, rfl, SqL.of e2, at_map hk, u, _, _, _, rfl, rfl, SqL.of (s2 _ _ U.top), at_map hc, o, as[ord[pl]], _, _, rfl, rfl, e2, ec, ?_, ?_⟩
      · rw [List.length_map, List.length_map, ← List.length_append]
        exact small (by omega)
      refine ⟨_, rfl, _, _, rfl, rfl, ?_⟩
      refine ⟨⟨ord ++ kd ord[pl], pl + 1, ?_, same_upd s2 ho _, ?_, B'⟩, ?_⟩
      · have e : ((pl : Nat) : Int) + 1 = ((pl + 1 : Nat) : Int) := by omega
        show [some (vN r), some (V.ref u), some (V.ref o), some (V.int ((pl : Int) + 1))] = _
        rw [e]
        rfl
      · rw [upd_same, List.map_append]
      · show ab.length - ((pl : Int) + 1).toNat < ab.length - (pl : Int).toNat
        omega
    · have c' := of_decide_eq_false (Bool.eq_false_iff.mpr c)
      rw [hl] at c'
      have hp : pl = ord.length := by have := B.le; omega
      subst hp
      exact ⟨_, rfl, q o ord H2 s2 e2 B⟩
  · rintro σ H2 Q1 Q2 hQ ⟨v1, h1, v2, h2, p2, ys, e1, e2, i, j, e3, e4, k, e5, h⟩
    exact ⟨v1, h1, v2, h2, p2, ys, e1, e2, i, j, e3, e4, k, e5, hQ _ _ h⟩
theorem scKnots : FnScope ["above", "marked", "root", "under", "order", "forms", "knot", "parts"] ["above", "marked"] (defScope sKnotForms) := ⟨rfl, rfl, rfl, by decide +kernel, rfl, by decide +kernel, by decide +kernel⟩
theorem ndPF : (["part", "forms"] : List Str).Nodup := by decide +kernel
theorem ok_knots {C f1 f2 f3 f4 : Addr} {d1 d2 d3 d4 : FuncData} {tk : Tok} (F : FunD K "knot_forms" "knot_forms" sKnotForms f fd) (GO : Kit P w K mg base 1 "form_over" ["parts"] spOver f1 d1) (GR : KitE P w K mg base 1 "root_of" ["above"] (spRootX C) f2 d2)
    (GU : KitE P w K mg base 1 "knots_under" ["above"] (spUnderX C) f3 d3) (GD : Kit P w K mg base 1 "downward" ["root", "under"] spDownK f4 d4) (ml : mg "len" = none) (mr : mg "reversed" = none) (mC : mg "NoTree" = some (.ref C)) (xc : XC K C)
    (mM : mg "MARK" = some (.str (Str.ofString "*") tk)) : FnOk P w K mg base (CXe P w) 2 f fd ["above", "marked"] (spKnots C) := by
  refine F.okX scKnots (fun vs H Q E h => ?_) (fun cdv A outer s H vs Q E hr h => ?_)
  · obtain ⟨a, A1, m, rfl, _⟩ := h
    rfl
  obtain ⟨a, A1, m, rfl, ha, hn, q, qe⟩ := h
  obtain ⟨ab, hab⟩ : ∃ ab : Ab, ab = A1.map ofI := ⟨_, rfl⟩
  have hlab : ab.length = A1.length := by rw [hab, List.length_map]
  refine ⟨_, pss_cons (ps_set (i := 2) scKnots.nd rfl (Or.inl rfl) (pe_call GR.ok hr rfl GR.mg GR.kp GR.bd .nil passX (pa_cons (pv 0) pa_nil)))
    (pss_cons (ps_set (i := 3) scKnots.nd rfl (Or.inl rfl) (pe_call GU.ok hr rfl GU.mg GU.kp GU.bd .nil passX (pa_cons (pv 0) pa_nil)))
    (pss_cons (ps_set (i := 4) scKnots.nd rfl (Or.inl rfl) (pe_call GD.ok hr rfl GD.mg GD.kp GD.bd .nil pass0 (pa_cons (pv 2) (pa_cons (pv 3) pa_nil))))
    (pss_cons (ps_if (pt_cmpR op_ne (pe_callB call_len_seq rfl ml PySem.boot_len (pa_cons (pv 4) pa_nil)) (pe_callB call_len_seq rfl ml PySem.boot_len (pa_cons (pv 0) pa_nil)) (nomark _)) (pss_one (ps_raise xc rfl xraise rfl mC (pa_cons pe_str pa_nil))) pss_nil)
    (pss_cons (ps_set (i := 5) scKnots.nd rfl (Or.inr rfl) (pe_op op_rep (pe_lst (pa_cons pe_str pa_nil)) (pe_callB call_len_seq rfl ml PySem.boot_len (pa_cons (pv 0) pa_nil))))
    (pss_cons (ps_for ownX rfl (pi_rev rfl mr (pa_cons (pv 4) pa_nil)) (pg_name (i := 6) scKnots.nd rfl (Or.inl rfl))
      (pss_cons (ps_setComp (N' := ["part", "forms"]) (js := [none, some 5]) (i := 7) scKnots.nd rfl (Or.inl rfl)
          (CompOk.free1 (x := "forms") (nms := [(".0", .local), ("part", .local), ("forms", .cell)]) rfl (by decide +kernel) (by decide +kernel) rfl rfl rfl rfl (by decide +kernel) (by
            intro j i h
            match j, h with
            | 0, h => cases h
            | 1, h => cases h; exact ⟨rfl, rfl⟩) rfl (Or.inl rfl)) rfl
          (pi_list (pe_ix ix_list (pv 3) (pv 6) (fun _ _ => rfl))) (fun _ _ _ _ => pg_name (i := 0) ndPF rfl (Or.inl rfl)) (fun _ _ _ _ => pif_nil) (fun _ _ _ _ => pe_ix ix_listC (pv 1) (pv 0) (fun _ _ => rfl)))
      (pss_cons (ps_if (pt_cmpR op_eq (pv 6) (pv 1) (nomark _)) (pss_one (ps_expr (pe_bm PySem.F.plainAttrs_list PySem.F.slot_list_append PySem.F.type_list_append mt_append (pv 7) (pa_cons (pe_glob (v := .str (Str.ofString "*")) rfl mM ⟨tk, rfl⟩) pa_nil)))) pss_nil)
      (pss_one (ps_asg (pe_call GO.ok hr rfl GO.mg GO.kp GO.bd .nil pass0 (pa_cons (pv 7) pa_nil)) (pg_sub (pv 5) (pv 6) set_list))))))
    (pss_one (ps_ret (pv 5)))))))), ?_⟩
  refine ⟨_, rfl, a, A1, rfl, ha, by omega, fun r H1 hr1 s1 => ?_, fun h H1 s1 => qe (fun z => h z.root) _ s1⟩
  refine ⟨_, rfl, a, A1, rfl, s1 _ _ ha, by omega, fun hI u as H2 s2 U => ?_, fun h H2 s2 => qe (fun z => h z.inR) _ (s1.trans s2)⟩
  rw [← hab] at U
  have hrt := Root1.of.mp hr1
  rw [← hab] at hrt
  refine ⟨_, rfl, _, rfl, u, as, ab, kids ab, r, rfl, U.lists, fun _ _ => .refl _, hrt.1, by omega, fun o ord H3 s3 eo BK => ?_⟩
  have B := BK.bfs
  have s03 : Same H H3 := s1.trans (s2.trans s3)
  have ha3 := s03 _ _ ha
  have hl : (A1.map vI).length = ab.length := by rw [List.length_map, hlab]
  have hlo : (ord.map vN).length = ord.length := List.length_map _
  refine ⟨_, rfl, o, _, rfl, .inl (SqL.of eo), _, rfl, a, _, rfl, .inl (SqL.of ha3), rfl, _, rfl, ?_⟩
  by_cases hw : ord.length = ab.length
  case neg =>
    have hz : ¬ V.int (((ord.map vN).length : Nat) : Int) = V.int (((A1.map vI).length : Nat) : Int) := fun z => by
      have z' := V.int.inj z
      rw [hlo, hl] at z'
      omega
    rw [decide_eq_false hz]
    refine iteT ⟨(by show 1 ≤ sizeLine; decide), qe (fun z => ?_) _ s03⟩
    obtain ⟨rk, T⟩ := z.tree hr1
    rw [← hab] at T
    exact hw (B.whole T)
  have T := B.tree hrt.1 hrt.2 (by rw [hab]; exact hI.par) hw
  generalize (fun k => ord.idxOf k) = rk at T
  refine iteNS (by rw [hlo, hl, hw]) ?_
  refine ⟨(by show 1 ≤ sizeLine; decide), fun e he => ?_⟩
  have s4 : Same H3 (upd H3 e (.lst [.str (Str.ofString "")])) := same_new he _
  refine ⟨_, rfl, a, _, rfl, .inl (SqL.of (s4 _ _ ha3)), e, _, _, rfl, rfl, upd_same, by omega, by rw [hl]; omega, ?_, fun fs hfs => ?_⟩
  · show 1 * _ ≤ sizeLine
    rw [hl]
    exact small (by omega)
  have hrep : (List.replicate (((A1.map vI).length : Nat) : Int).toNat [V.str (Str.ofString "")]).flatten = (List.replicate ab.length ([] : Tx)).map vT := by
    rw [hl, Int.toNat_natCast, List.map_replicate]
    have ee : V.str (Str.ofString "") = vT [] := by rw [ep]; rfl
    rw [ee]
    induction ab.length with
    | zero => rfl
    | succ n ih => rw [List.replicate_succ, List.flatten_cons, ih, List.replicate_succ]; rfl
  have hfs3 : H3 fs = none := s4.free hfs
  have F0 : FilledM ab m ord (List.replicate ab.length ([] : Tx)) 0 := ⟨List.length_replicate, fun j k hj hk => by
    have := (List.getElem?_eq_some_iff.mp hk).1
    omega⟩
  refine ⟨_, rfl, o, _, rfl, SqL.of ((s4.trans (same_new hfs _)) _ _ eo), for_rev (K := K) (a := o) (xs := ord.map vN) (fun i σ H4 => ∃ (kn pt : Option V) (ts : List Tx), σ = [some (.ref a), some (vO m), some (vN r), some (.ref u), some (.ref o), some (.ref fs), kn, pt] ∧ Same H3 H4 ∧ H4 fs = some (.lst (ts.map vT)) ∧ FilledM ab m ord ts i)
    ⟨none, none, _, rfl, s4.trans (same_new hfs _), by rw [upd_same, hrep], F0⟩ (fun i σ H4 _ ⟨_, _, _, _, s5, _⟩ => SqL.of (s5 _ _ eo)) ?_ ?_⟩
  · rintro i x σ H4 hi hx ⟨kn, pt, ts, rfl, s5, ef, Fi⟩
    rw [hlo] at hi
    rw [hlo] at hx
    obtain ⟨k, hk, rfl⟩ := of_map hx
    have hkl : k < ab.length := B.lt k (List.mem_iff_getElem?.mpr ⟨_, hk⟩)
    have hka : k < as.length := by rw [U.len]; exact hkl
    have hc : as[k]? = some as[k] := List.getElem?_eq_getElem hka
    have ec3 := s3 _ _ (U.each k _ hc)
    have ec := s5 _ _ ec3
    have hkids := kids_lt_len hrt.1 k
    refine ⟨_, rfl, _, rfl, u, _, _, _, rfl, rfl, SqL.of (s5 _ _ (s3 _ _ U.top)), at_map hc, as[k], rfl, ⟨_, SqL.of ec⟩, ?_⟩
    refine comp_list (xs := (kids ab k).map vN) (fun D j ys τ H5 => (∃ o1, τ = [o1, some (.ref fs)]) ∧ ys = ((kids ab k).take j).map (fun c => vT (fmM ab m c)) ∧ Same H4 H5 ∧ H4 D = none ∧ H5 D = some (.lst ys)) (small (by rw [List.length_map]; omega))
      (fun D hD => ⟨⟨_, rfl⟩, rfl, same_new hD _, hD, upd_same⟩) (fun D j ys τ H5 _ ⟨_, _, s6, _⟩ => SqL.of (s6 _ _ ec)) ?_ ?_ (fun _ _ _ _ _ h z => h _ _ z) (fun τ H5 Q1 Q2 h z => ?_)
    · rintro D j x ys τ H5 hx hy ⟨⟨o1, rfl⟩, rfl, s6, hD, e6⟩
      obtain ⟨c, hc', rfl⟩ := of_map hx
      have hck : c ∈ kids ab k := List.mem_of_getElem? hc'
      have hf := Fi.kid B hi hk hck
      refine ⟨_, rfl, _, rfl, fs, _, _, _, rfl, rfl, SqL.of (s6 _ _ ef), at_map hf, e6, ⟨_, rfl⟩, ?_, same_upd s6 hD _, hD, upd_same⟩
      rw [List.take_add_one, hc', List.map_append]
      rfl
    · rintro D ys τ H5 hy ⟨_, rfl, s6, hD, e6⟩
      rw [List.length_map, List.take_length] at e6
      have hm : (kids ab k).map (fun c => vT (fmM ab m c)) = ((kids ab k).map (fmM ab m)).map vT := by rw [List.map_map]; rfl
      rw [hm] at e6
      have hlen := fmM_kids_len ab m k
      have h2 : 3 * ab.length * ab.length ≤ 3 * 64 * 64 := Nat.mul_le_mul (Nat.mul_le_mul (Nat.le_refl _) (by omega)) (by omega)
      have eml : V.str (Str.ofString "*") = vT [42] := rfl
      refine ⟨_, rfl, _, rfl, by cases m <;> rfl, _, rfl, ?_⟩
      by_cases hmk : m = some k
      case' pos =>
        have ed : decide (vN k = vO m) = true := by rw [hmk]; exact decide_eq_true rfl
        rw [ed]
        refine iteT ⟨_, rfl, .inl ⟨rfl, _, SqL.of e6⟩, D, _, _, rfl, rfl, e6, smallt (by rw [List.length_map, List.length_map]; omega), ?_⟩
        have e7 : (upd H5 D (.lst (((kids ab k).map (fmM ab m)).map vT ++ [V.str (Str.ofString "*")]))) D = some (.lst (((kids ab k).map (fmM ab m) ++ mrk m k).map vT)) := by
          rw [upd_same, List.map_append, hmk, mrk_self]
          rfl
        have s7 : Same H4 (upd H5 D (.lst (((kids ab k).map (fmM ab m)).map vT ++ [V.str (Str.ofString "*")]))) := same_upd s6 hD _
        revert e7 s7
        generalize upd H5 D (.lst (((kids ab k).map (fmM ab m)).map vT ++ [V.str (Str.ofString "*")])) = H6
        intro e7 s7
      case' neg =>
        have ed : decide (vN k = vO m) = false := decide_eq_false fun z => by
          cases m with
          | none => cases z
          | some j =>
            have := V.int.inj z
            exact hmk (by rw [show j = k by omega])
        rw [ed]
        refine iteF ?_
        have e7 : H5 D = some (.lst (((kids ab k).map (fmM ab m) ++ mrk m k).map vT)) := by
          rw [show mrk m k = [] from if_neg hmk, List.append_nil]
          exact e6
        have s7 : Same H4 H5 := s6
        revert e7 s7
        generalize H5 = H6
        intro e7 s7
      all_goals
        have hm1 : (mrk m k).length ≤ 1 := by unfold mrk; split <;> simp
        refine ⟨_, rfl, D, _, rfl, e7, by rw [List.length_append, List.length_map]; omega, ?_, fun H7 s8 => ?_⟩
        · rw [List.map_append, List.sum_append, List.map_map]
          have := mrk_len m k
          have e9 : ((kids ab k).map ((fun x => x.length) ∘ fmM ab m)) = (kids ab k).map fun c => (fmM ab m c).length := rfl
          rw [e9]
          omega
        refine ⟨_, rfl, _, rfl, fs, _, _, k, rfl, rfl, (s7.trans s8) _ _ ef, ixN_nat (by rw [List.length_map, Fi.len]; exact hkl), ?_⟩
        refine ⟨_, _, _, rfl, same_upd (s5.trans (s7.trans s8)) hfs3 _, ?_, Fi.step T B hi hk⟩
        rw [upd_same, List.map_set]
    · obtain ⟨v1, h1, v2, h2, p, xs, i', v, e1, e2, e3, e4, e5⟩ := z
      exact ⟨v1, h1, v2, h2, p, xs, i', v, e1, e2, e3, e4, h _ _ e5⟩
  · rintro σ H4 ⟨kn, pt, ts, rfl, s5, ef, Fi⟩
    rw [hlo] at Fi
    rw [Fi.all T B] at ef
    exact ⟨_, rfl, q ab r rk fs H4 (by rw [hab]; exact hI.back) T (s03.trans s5) (s03.free hfs3) ef⟩
end
end K09


set_option Elab.async false
set_option linter.all false
set_option maxRecDepth 100000
set_option maxHeartbeats 4000000
namespace K09
open PySem L2 KM KD PyProof.Rows
section
variable {P : Program} {w : World} {K : PySem.W.Frag} {mg : Str → Option Value} {base : Heap} {f : Addr} {fd : FuncData}
theorem scForm : FnScope ["above"] ["above"] (defScope sForm) := ⟨rfl, rfl, rfl, by decide +kernel, rfl, by decide +kernel, by decide +kernel⟩
theorem ok_formX {C f1 f2 : Addr} {d1 d2 : FuncData} (F : Fun K "form_of" "form_of" sForm f fd) (GK : KitD P w K mg base 2 "knot_forms" ["above", "marked"] (spKnots C) f1 d1) (GR : KitE P w K mg base 1 "root_of" ["above"] (spRootX C) f2 d2) : FnOk P w K mg base (CXe P w) 3 f fd ["above"] (spFormX C) := by
  refine F.okX scForm (fun vs H Q E h => ?_) (fun cdv A outer s H vs Q E hr h => ?_)
  · obtain ⟨a, A1, rfl, _⟩ := h
    rfl
  obtain ⟨a, A1, rfl, ha, hn, q, qe⟩ := h
  refine ⟨_, pss_one (ps_ret (pe_ix ix_list (pe_call GK.ok hr rfl GK.mg GK.kp GK.bd1 vals_non passX (pa_cons (pv 0) pa_nil)) (pe_call GR.ok (hr.mono (by decide)) rfl GR.mg GR.kp GR.bd .nil passX (pa_cons (pv 0) pa_nil)) (fun _ _ => rfl))), ?_⟩
  refine ⟨_, rfl, a, A1, none, rfl, ha, hn, fun ab r rk p H1 e T s1 hp ep => ?_, qe⟩
  have hr1 : Root1 A1 r := Root1.of.mpr (by rw [e, map_back]; exact ⟨T.root, T.only⟩)
  refine ⟨_, rfl, a, A1, rfl, s1 _ _ ha, by omega, fun r' H2 hr2 s2 => ?_, fun h => absurd ⟨r, hr1⟩ h⟩
  have : r' = r := hr1.2 r' hr2.1
  subst this
  refine ⟨p, _, _, _, rfl, rfl, SqL.of (s2 _ _ ep), at_map (fms_get T.rlt), ?_⟩
  rw [fmM_none]
  exact q ab r' rk H2 e T (s1.trans s2)
end
end K09


set_option Elab.async false
set_option linter.all false
set_option maxRecDepth 100000
set_option maxHeartbeats 4000000
namespace K09
open PySem L2 KM KD PyProof.Rows
section
variable {P : Program} {w : World} {K : PySem.W.Frag} {mg : Str → Option Value} {base : Heap} {f : Addr} {fd : FuncData}
theorem scUpto : FnScope ["_law_script", "_law_small", "_law_great"] ["_law_script", "_law_small", "_law_great"] (defScope sUpto) := ⟨rfl, rfl, rfl, by decide +kernel, rfl, by decide +kernel, by decide +kernel⟩
theorem ok_upto (F : Fun K "_law_upto" "_law_upto" sUpto f fd) (ml : mg "len" = none) : FnOk P w K mg base CX0 1 f fd ["_law_script", "_law_small", "_law_great"] (spUpto K) := by
  refine F.ok scUpto (fun vs H Q E h => ?_) (fun cdv A outer s H vs Q E hr h => ?_)
  · obtain ⟨a, xs, sm, gr, rfl, _⟩ := h
    rfl
  obtain ⟨a, xs, sm, gr, rfl, ha, hn, q⟩ := h
  refine ⟨_, pss_cons (ps_if (pt_cmpR op_gt (pe_callB call_len_seq rfl ml PySem.boot_len (pa_cons (pv 0) pa_nil)) pe_int (nomark _)) (pss_one (ps_ret (pv 2))) pss_nil) (pss_one (ps_ret (pv 1))), ?_⟩
  refine ⟨_, rfl, a, _, rfl, .inl ha, _, _, rfl, rfl, _, rfl, ?_⟩
  rw [show decide ((63 : Int) < ((xs.length : Nat) : Int)) = false from decide_eq_false (by omega)]
  exact iteF ⟨_, rfl, q _ (Same.refl _)⟩
end
end K09


set_option Elab.async false
set_option linter.all false
set_option maxRecDepth 100000
set_option maxHeartbeats 4000000
namespace K09
open PySem L2 KM KD PyProof.Rows
section
variable {P : Program} {w : World} {K : PySem.W.Frag} {mg : Str → Option Value} {base : Heap} {f : Addr} {fd : FuncData}
theorem scWhole : FnScope ["_law_found"] ["_law_found"] (defScope sWhole) := ⟨rfl, rfl, rfl, by decide +kernel, rfl, by decide +kernel, by decide +kernel⟩
theorem ok_whole (F : Fun K "_law_whole" "_law_whole" sWhole f fd) (mi : mg "isinstance" = none) (mn : mg "int" = none) (mb : mg "bool" = none) : FnOk P w K mg base CX0 1 f fd ["_law_found"] spWhole := by
  refine F.ok scWhole (fun vs H Q E h => ?_) (fun cdv A outer s H vs Q E hr h => ?_)
  · obtain ⟨i, rfl, _⟩ := h
    rfl
  obtain ⟨i, rfl, q⟩ := h
  refine ⟨_, pss_one (ps_ret (pe_and (pe_callB call_isi rfl mi boot_isinstance (pa_cons (pv 0) (pa_cons (pe_bltn (v := .ty "int") rfl mn PyProof.Rows.boot_int rfl) pa_nil)))
    (pe_one (pe_not (pe_callB call_isi rfl mi boot_isinstance (pa_cons (pv 0) (pa_cons (pe_bltn (v := .ty "bool") rfl mb PyProof.Rows.boot_bool rfl) pa_nil))))))), ?_⟩
  refine ⟨_, rfl, _, _, _, _, rfl, TyOf.int i, (show PySem.W.kitOne K (.type "int") (.type "int") = some true from rfl), _, rfl, iteT ?_⟩
  refine ⟨_, rfl, _, _, _, _, rfl, TyOf.int i, (show PySem.W.kitOne K (.type "int") (.type "bool") = some false from rfl), _, rfl, ?_⟩
  exact q _ (Same.refl _)
end
end K09


set_option Elab.async false
set_option linter.all false
set_option maxRecDepth 100000
set_option maxHeartbeats 4000000
namespace K09
open PySem L2 KM KD PyProof.Rows
section
variable {P : Program} {w : World} {K : PySem.W.Frag} {mg : Str → Option Value} {base : Heap} {f : Addr} {fd : FuncData}
theorem iteB {c : Bool} {A B : Prop} (h : c = true → A) (h2 : c = false → B) : if c = true then A else B := by
  cases c with
  | true => exact iteT (h rfl)
  | false => exact iteF (h2 rfl)
theorem scAt : FnScope ["_law_script", "_law_k"] ["_law_script", "_law_k"] (defScope sAt) := ⟨rfl, rfl, rfl, by decide +kernel, rfl, by decide +kernel, by decide +kernel⟩
theorem ok_at (F : Fun K "_law_at" "_law_at" sAt f fd) (ml : mg "len" = none) : FnOk P w K mg base CX0 1 f fd ["_law_script", "_law_k"] (spAt K) := by
  refine F.ok scAt (fun vs H Q E h => ?_) (fun cdv A outer s H vs Q E hr h => ?_)
  · obtain ⟨a, ns, k, rfl, _⟩ := h
    rfl
  obtain ⟨a, ns, k, rfl, ha, q⟩ := h
  refine ⟨_, pss_cons (ps_if (pt_cmpR op_lt (pv 1) (pe_callB call_len_seq rfl ml PySem.boot_len (pa_cons (pv 0) pa_nil)) (nomark _)) (pss_one (ps_ret (pe_ix ix_list (pv 0) (pv 1) (fun _ _ => rfl)))) pss_nil) (pss_one (ps_ret pe_int)), ?_⟩
  refine ⟨_, rfl, _, rfl, a, _, rfl, .inl ha, _, _, rfl, rfl, _, rfl, iteB (fun hlt => ?_) fun _ => q 0 H fun _ _ z => z⟩
  have hlt := of_decide_eq_true hlt
  rw [List.length_map] at hlt
  have hk : k < ns.length := by omega
  exact ⟨_, rfl, _, rfl, a, _, _, _, rfl, rfl, ha, at_map (List.getElem?_eq_getElem hk), q _ H fun _ _ z => z⟩
end
end K09


set_option Elab.async false
set_option linter.all false
set_option maxRecDepth 100000
set_option maxHeartbeats 4000000
namespace K09
open PySem L2 KM KD PyProof.Rows
section
variable {P : Program} {w : World} {K : PySem.W.Frag} {mg : Str → Option Value} {base : Heap} {f : Addr} {fd : FuncData}
theorem scRooted : FnScope ["_law_cells", "_law_above", "_law_way", "_law_k", "_law_cell", "_law_spot", "_law_half", "_law_copy", "_law_one"] ["_law_cells"] (defScope sRooted) := ⟨rfl, rfl, rfl, by decide +kernel, rfl, by decide +kernel, by decide +kernel⟩
theorem cut_take (xs : List V) (k : Nat) : cutV xs none (some (k : Int)) = xs.take k := by
  unfold cutV
  rw [HT.sIx_none, HT.sIx_nat, List.drop_zero, Nat.sub_zero]
  by_cases h : k ≤ xs.length
  · rw [Nat.min_eq_left h]
  · rw [Nat.min_eq_right (by omega), List.take_length, List.take_of_length_le (by omega)]
theorem spot_ok (c k : Int) (hk : 0 < k) : ∃ j : Int, 0 ≤ j ∧ j < k ∧ atI [V.int 0, V.int ((k - 1) / 2), V.int (c / 4 % k), V.int (c / 4 % k)] (c % 4) = some (.int j) := by
  have h0 := Int.emod_nonneg (c / 4) (show k ≠ 0 by omega)
  have h1 := Int.emod_lt_of_pos (c / 4) hk
  have hc : c % 4 = ((0 : Nat) : Int) ∨ c % 4 = ((1 : Nat) : Int) ∨ c % 4 = ((2 : Nat) : Int) ∨ c % 4 = ((3 : Nat) : Int) := by omega
  rcases hc with e | e | e | e
  · exact ⟨0, by omega, hk, by rw [e]; exact atI_nat rfl⟩
  · exact ⟨(k - 1) / 2, by omega, by omega, by rw [e]; exact atI_nat rfl⟩
  · exact ⟨c / 4 % k, h0, h1, by rw [e]; exact atI_nat rfl⟩
  · exact ⟨c / 4 % k, h0, h1, by rw [e]; exact atI_nat rfl⟩
theorem snocV (ab : Ab) {j : Int} (h : 0 ≤ j) : ab.map vO ++ [V.int j] = (ab ++ [some j.toNat]).map vO := by
  rw [List.map_append]
  have : V.int j = vO (some j.toNat) := by show V.int j = V.int ((j.toNat : Nat) : Int); rw [Int.toNat_of_nonneg h]
  rw [this]
  rfl
theorem ok_rooted (F : Fun K "_law_rooted" "_law_rooted" sRooted f fd) (ml : mg "len" = none) (mr : mg "range" = none) : FnOk P w K mg base CX0 1 f fd ["_law_cells"] spRooted := by
  refine F.ok scRooted (fun vs H Q E h => ?_) (fun cdv A outer s H vs Q E hr h => ?_)
  · obtain ⟨a, ns, rfl, _⟩ := h
    rfl
  obtain ⟨a, ns, rfl, ha, hn, q⟩ := h
  refine ⟨_, pss_cons (ps_set (i := 1) scRooted.nd rfl (Or.inl rfl) (pe_lst (pa_cons pe_non pa_nil)))
    (pss_cons (ps_set (i := 2) scRooted.nd rfl (Or.inl rfl) (pe_op op_mod (pe_ix ix_list (pe_op op_cat (pv 0) (pe_lst (pa_cons pe_int pa_nil))) pe_int (fun _ _ => rfl)) pe_int))
    (pss_cons (ps_for PassesOwn.never rfl (pi_range2 rfl mr (pa_cons pe_int (pa_cons (pe_op op_add (pe_callB call_len_seq rfl ml PySem.boot_len (pa_cons (pv 0) pa_nil)) pe_int) pa_nil))) (pg_name (i := 3) scRooted.nd rfl (Or.inl rfl))
      (pss_cons (ps_set (i := 4) scRooted.nd rfl (Or.inl rfl) (pe_ix ix_list (pv 0) (pe_op op_sub (pv 3) pe_int) (fun _ _ => rfl)))
      (pss_cons (ps_set (i := 5) scRooted.nd rfl (Or.inl rfl) (pe_ix ix_list (pe_lst (pa_cons pe_int (pa_cons (pe_op op_fdiv (pe_op op_sub (pv 3) pe_int) pe_int) (pa_cons (pe_op op_mod (pe_op op_fdiv (pv 4) pe_int) (pv 3)) (pa_cons (pe_op op_mod (pe_op op_fdiv (pv 4) pe_int) (pv 3)) pa_nil))))) (pe_op op_mod (pv 4) pe_int) (fun _ _ => rfl)))
      (pss_cons (ps_if (pt_cmpR op_eq (pv 2) pe_int (nomark _)) (pss_one (ps_set (i := 5) scRooted.nd rfl (Or.inl rfl) (pe_op op_sub (pv 3) pe_int))) pss_nil)
      (pss_cons (ps_if (pt_cmpR op_eq (pv 2) pe_int (nomark _)) (pss_one (ps_set (i := 5) scRooted.nd rfl (Or.inl rfl) pe_int)) pss_nil)
      (pss_one (ps_expr (pe_bm PySem.F.plainAttrs_list PySem.F.slot_list_append PySem.F.type_list_append mt_append (pv 1) (pa_cons (pv 5) pa_nil)))))))))
    (pss_cons (ps_if (PW.pt (pw_and (pt_cmpR op_eq (pv 2) pe_int (nomark _)) (pw_and1 (pt_cmpR op_gt (pe_callB call_len_seq rfl ml PySem.boot_len (pa_cons (pv 0) pa_nil)) pe_int (nomark _)))))
      (pss_cons (ps_set (i := 6) scRooted.nd rfl (Or.inl rfl) (pe_slice sl_list (pv 1) po_none (po_some (pe_op op_fdiv (pe_callB call_len_seq rfl ml PySem.boot_len (pa_cons (pv 0) pa_nil)) pe_int))))
      (pss_cons (ps_set (i := 1) scRooted.nd rfl (Or.inl rfl) (pe_lst (pa_cons pe_non pa_nil)))
      (pss_one (ps_for PassesOwn.never rfl (pi_range1 rfl mr (pa_cons pe_int pa_nil)) (pg_name (i := 7) scRooted.nd rfl (Or.inl rfl))
        (pss_one (ps_for PassesOwn.never rfl (pi_list (pv 6)) (pg_name (i := 8) scRooted.nd rfl (Or.inl rfl))
          (pss_one (ps_if (pt_cmp (pc_isN (pv 8)))
            (pss_one (ps_expr (pe_bm PySem.F.plainAttrs_list PySem.F.slot_list_append PySem.F.type_list_append mt_append (pv 1) (pa_cons pe_int pa_nil))))
            (pss_one (ps_expr (pe_bm PySem.F.plainAttrs_list PySem.F.slot_list_append PySem.F.type_list_append mt_append (pv 1) (pa_cons (pe_op op_add (pe_op op_add (pv 8) pe_int) (pe_op op_mul (pv 7) (pe_callB call_len_seq rfl ml PySem.boot_len (pa_cons (pv 6) pa_nil)))) pa_nil))))))))))))
      pss_nil)
    (pss_one (ps_ret (pv 1)))))), ?_⟩
  have hl : (ns.map V.int).length = ns.length := List.length_map _
  refine ⟨(by show 1 ≤ sizeLine; decide), fun ar har => ?_⟩
  have s1 : Same H (upd H ar (.lst [.non])) := same_new har _
  refine ⟨_, rfl, (by show 1 ≤ sizeLine; decide), fun z hz => ?_⟩
  have s2 : Same H (upd (upd H ar (.lst [.non])) z (.lst [.int 0])) := s1.trans (same_new hz _)
  refine ⟨a, z, _, _, rfl, rfl, s2 _ _ ha, upd_same, ?_, fun y hy => ?_⟩
  · show _ + 1 ≤ sizeLine
    rw [hl]
    exact small (by omega)
  have s3 := s2.trans (same_new hy (.lst (ns.map V.int ++ [.int 0])))
  obtain ⟨v0, hv0⟩ : ∃ v0 : Int, atI (ns.map V.int ++ [V.int 0]) 0 = some (.int v0) := by
    cases ns with
    | nil => exact ⟨0, atI_nat (j := 0) rfl⟩
    | cons n r => exact ⟨n, atI_nat (j := 0) rfl⟩
  refine ⟨y, _, 0, _, rfl, rfl, SqL.of upd_same, hv0, _, _, rfl, rfl, (by show (0 : Int) < 9; decide), ?_⟩
  have e1 : (upd (upd (upd H ar (.lst [.non])) z (.lst [.int 0])) y (.lst (ns.map V.int ++ [.int 0]))) ar = some (.lst (([none] : Ab).map vO)) := by
    have h1 : (upd H ar (.lst [.non])) ar = some (.lst [.non]) := upd_same
    have h2 := same_new hz (.lst [V.int 0]) _ _ h1
    exact same_new hy _ _ _ h2
  refine ⟨_, rfl, a, _, rfl, .inl (SqL.of (s3 _ _ ha)), _, _, rfl, rfl, 1, _, rfl, ⟨by decide, by decide, by omega, by rw [hl]; omega⟩, ?_⟩
  have et : ((((ns.map V.int).length : Nat) : Int) + 1 - 1).toNat = ns.length := by rw [hl]; omega
  rw [et]
  refine for_range (lo := 1) (n := ns.length) (fun i σ H2 => ∃ (o3 o4 o5 : Option V) (ab : Ab), σ = [some (.ref a), some (.ref ar), some (.int (v0 % 9)), o3, o4, o5, none, none, none] ∧ Same H H2 ∧ H2 ar = some (.lst (ab.map vO)) ∧ Up ab ∧ ab.length = i + 1)
    ⟨none, none, none, [none], rfl, s3, e1, up1, rfl⟩ ?_ ?_
  · rintro i σ H2 hi ⟨o3, o4, o5, ab, rfl, s4, ea, U, hab⟩
    have hx : ns[i]? = some ns[i] := List.getElem?_eq_getElem hi
    have ei : (1 + (i : Int)) - 1 = (i : Int) := by omega
    obtain ⟨j, hj0, hj1, hj⟩ := spot_ok ns[i] (1 + (i : Int)) (by omega)
    refine ⟨_, rfl, _, rfl, _, _, rfl, rfl, a, _, _, .int ns[i], rfl, rfl, SqL.of (s4 _ _ ha), by rw [ei]; exact at_map hx, ?_⟩
    refine ⟨_, rfl, _, _, rfl, rfl, _, _, rfl, rfl, ⟨by decide, by decide⟩, _, rfl, _, _, rfl, rfl, ⟨by decide, by decide⟩, _, rfl, _, _, rfl, rfl, (by show (0 : Int) < 1 + (i : Int); omega),
      _, rfl, _, _, rfl, rfl, ⟨by decide, by decide⟩, _, rfl, _, _, rfl, rfl, (by show (0 : Int) < 1 + (i : Int); omega), (by show 4 ≤ sizeLine; decide), fun t ht => ?_⟩
    refine ⟨_, rfl, _, _, rfl, rfl, (by show (0 : Int) < 4; decide), t, _, _, _, rfl, rfl, SqL.of upd_same, hj, ?_⟩
    have s5 : Same H2 (upd H2 t (.lst [V.int 0, V.int ((1 + (i : Int) - 1) / 2), V.int (ns[i] / 4 % (1 + (i : Int))), V.int (ns[i] / 4 % (1 + (i : Int)))])) := same_new ht _
    have ea5 := s5 _ _ ea
    have hz : ∀ {j' : Int} {H3 : Hp} {o3' o4' : Option V}, 0 ≤ j' → j' < 1 + (i : Int) → Same H H3 → H3 ar = some (.lst (ab.map vO)) →
        ∃ (o3 o4 o5 : Option V) (ab' : Ab), [some (V.ref a), some (.ref ar), some (.int (v0 % 9)), o3', o4', some (.int j'), none, none, none] = [some (V.ref a), some (.ref ar), some (.int (v0 % 9)), o3, o4, o5, none, none, none] ∧
          Same H (upd H3 ar (.lst (ab.map vO ++ [.int j']))) ∧ (upd H3 ar (.lst (ab.map vO ++ [.int j']))) ar = some (.lst (ab'.map vO)) ∧ Up ab' ∧ ab'.length = i + 1 + 1 := by
      intro j' H3 o3' o4' h0 h1 hs he
      refine ⟨_, _, _, ab ++ [some j'.toNat], rfl, same_upd hs har _, by rw [upd_same, snocV ab h0], U.snoc (by omega), by rw [List.length_append, hab]; rfl⟩
    have hsz : (ab.map vO).length < sizeLine := by rw [List.length_map, hab]; exact smallt (by omega)
    refine ⟨_, rfl, rfl, _, rfl, ?_⟩
    refine ite2 (fun _ => ?_) (fun _ => ?_)
    · refine ⟨_, rfl, _, _, rfl, rfl, ?_⟩
      refine ⟨_, rfl, rfl, _, rfl, ?_⟩
      refine ite2 (fun _ => ?_) (fun _ => ?_)
      · exact ⟨_, rfl, .inl ⟨rfl, _, SqL.of ea5⟩, _, rfl, ar, _, _, rfl, rfl, ea5, hsz, hz (by omega) (by omega) (s4.trans s5) ea5⟩
      · exact ⟨_, rfl, .inl ⟨rfl, _, SqL.of ea5⟩, _, rfl, ar, _, _, rfl, rfl, ea5, hsz, hz (by omega) (by omega) (s4.trans s5) ea5⟩
    · refine ⟨_, rfl, rfl, _, rfl, ?_⟩
      refine ite2 (fun _ => ?_) (fun _ => ?_)
      · exact ⟨_, rfl, .inl ⟨rfl, _, SqL.of ea5⟩, _, rfl, ar, _, _, rfl, rfl, ea5, hsz, hz (by omega) (by omega) (s4.trans s5) ea5⟩
      · exact ⟨_, rfl, .inl ⟨rfl, _, SqL.of ea5⟩, _, rfl, ar, _, _, rfl, rfl, ea5, hsz, hz hj0 hj1 (s4.trans s5) ea5⟩
  · rintro σ H2 ⟨o3, o4, o5, ab, rfl, s4, ea, U, hab⟩
    have done : ∀ {o6 o7 o8 : Option V} {H3 : Hp}, Same H H3 → H3 ar = some (.lst (ab.map vO)) → Q (.ref ar) H3 := fun hs he => q ar ab _ hs U (by omega) har he
    refine ⟨_, rfl, rfl, _, rfl, ?_⟩
    refine ite2 (fun _ => ?_) (fun _ => ?_)
    · refine ⟨_, rfl, a, _, rfl, .inl (SqL.of (s4 _ _ ha)), _, _, rfl, rfl, _, rfl, ?_⟩
      refine ite2 (fun c => ?_) (fun _ => ?_)
      · have c' := of_decide_eq_true c
        rw [hl] at c'
        have ed : (((ns.map V.int).length : Nat) : Int) / 2 = ((ns.length / 2 : Nat) : Int) := by rw [hl]; omega
        refine ⟨_, rfl, _, rfl, a, _, rfl, .inl (SqL.of (s4 _ _ ha)), _, _, rfl, rfl, ⟨by decide, by decide⟩, _, rfl, ar, _, rfl, SqL.of ea, fun hf hhf => ?_⟩
        rw [ed, cut_take, ← List.map_take]
        have Uh : Up (ab.take (ns.length / 2)) := U.take (by omega)
        have hh : (ab.take (ns.length / 2)).length = ns.length / 2 := by rw [List.length_take]; omega
        have s5 := same_new hhf (.lst ((ab.take (ns.length / 2)).map vO))
        refine ⟨(by show 1 ≤ sizeLine; decide), fun br hbr => ?_⟩
        have s6 := same_new hbr (.lst [V.non])
        have ehf := s6 _ _ (show (upd H2 hf (.lst ((ab.take (ns.length / 2)).map vO))) hf = _ from upd_same)
        have nbr : H br = none := (s4.trans s5).free hbr
        have nhb : hf ≠ br := ne_of_none upd_same hbr
        refine ⟨2, rfl, by decide, by decide, for_range (n := 2) (fun c σ H3 => ∃ (o7 o8 : Option V) (wb : Ab), σ = [some (.ref a), some (.ref br), some (.int (v0 % 9)), o3, o4, o5, some (.ref hf), o7, o8] ∧ Same H H3 ∧ H3 hf = some (.lst ((ab.take (ns.length / 2)).map vO)) ∧ H3 br = some (.lst (wb.map vO)) ∧ Up wb ∧ wb.length = 1 + c * (ns.length / 2))
          ⟨none, none, [none], rfl, s4.trans (s5.trans s6), ehf, upd_same, up1, by simp⟩ ?_ ?_⟩
        · rintro c σ H3 hc ⟨o7, o8, wb, rfl, s7, e7, eb, Uw, hw⟩
          refine ⟨_, rfl, hf, rfl, ⟨_, SqL.of e7⟩, for_list (K := K) (a := hf) (xs := (ab.take (ns.length / 2)).map vO) (fun j σ H4 => ∃ (o8 : Option V) (wb : Ab), σ = [some (.ref a), some (.ref br), some (.int (v0 % 9)), o3, o4, o5, some (.ref hf), some (.int (0 + (c : Int))), o8] ∧ Same H H4 ∧ H4 hf = some (.lst ((ab.take (ns.length / 2)).map vO)) ∧ H4 br = some (.lst (wb.map vO)) ∧ Up wb ∧ wb.length = 1 + c * (ns.length / 2) + j)
            ⟨o8, wb, rfl, s7, e7, eb, Uw, hw⟩ (fun j σ H4 _ ⟨_, _, _, _, e8, _⟩ => SqL.of e8) ?_ ?_⟩
          · rintro j x σ H4 hx ⟨o8, wb, rfl, s8, e8, eb, Uw, hw⟩
            obtain ⟨o, ho, rfl⟩ := of_map hx
            have hjl : j < ns.length / 2 := by have := (List.getElem?_eq_some_iff.mp ho).1; rw [hh] at this; exact this
            have hbl : (wb.map vO).length < sizeLine := by
              rw [List.length_map, hw]
              have : c * (ns.length / 2) ≤ 2 * (ns.length / 2) := Nat.mul_le_mul_right _ (by omega)
              exact smallt (by omega)
            have fin : ∀ {v : Int} {ox : Option V}, 0 ≤ v → v < (wb.length : Int) → ∃ (o8 : Option V) (wb' : Ab), [some (V.ref a), some (.ref br), some (.int (v0 % 9)), o3, o4, o5, some (.ref hf), some (.int (0 + (c : Int))), ox] = [some (V.ref a), some (.ref br), some (.int (v0 % 9)), o3, o4, o5, some (.ref hf), some (.int (0 + (c : Int))), o8] ∧
                Same H (upd H4 br (.lst (wb.map vO ++ [.int v]))) ∧ (upd H4 br (.lst (wb.map vO ++ [.int v]))) hf = some (.lst ((ab.take (ns.length / 2)).map vO)) ∧ (upd H4 br (.lst (wb.map vO ++ [.int v]))) br = some (.lst (wb'.map vO)) ∧ Up wb' ∧ wb'.length = 1 + c * (ns.length / 2) + (j + 1) := by
              intro v ox h0 h1
              exact ⟨ox, wb ++ [some v.toNat], rfl, same_upd s8 nbr _, by rw [upd_ne nhb]; exact e8, by rw [upd_same, snocV wb h0], Uw.snoc (by omega), by rw [List.length_append, hw]; rfl⟩
            have hwp := Uw.pos
            refine ⟨_, rfl, _, rfl, ?_⟩
            cases o with
            | none =>
              exact iteT ⟨_, rfl, .inl ⟨rfl, _, SqL.of eb⟩, br, _, _, rfl, rfl, eb, hbl, fin (by omega) (by omega)⟩
            | some p =>
              have hpj : p < j := by
                by_cases hj0 : 0 < j
                · obtain ⟨p', hp', hlt⟩ := Uh.up j hj0 (by rw [hh]; exact hjl)
                  rw [ho] at hp'
                  cases hp'
                  exact hlt
                · have : j = 0 := by omega
                  subst this
                  rw [Uh.root] at ho
                  cases ho
              have hlen : (((ab.take (ns.length / 2)).map vO).length : Nat) = ns.length / 2 := by rw [List.length_map, hh]
              refine iteF ⟨_, rfl, .inl ⟨rfl, _, SqL.of eb⟩, _, rfl, _, _, rfl, rfl, _, rfl, _, rfl, hf, _, rfl, .inl (SqL.of e8), _, _, rfl, rfl, .inl ⟨by omega, by omega⟩, _, _, rfl, rfl, br, _, _, rfl, rfl, eb, hbl, fin ?_ ?_⟩
              · have : (0 : Int) ≤ (0 + (c : Int)) * (((ab.take (ns.length / 2)).map vO).length : Nat) := Int.mul_nonneg (by omega) (by omega)
                omega
              · rw [hlen, hw]
                have : (0 + (c : Int)) * ((ns.length / 2 : Nat) : Int) = ((c * (ns.length / 2) : Nat) : Int) := by rw [Int.zero_add, Int.natCast_mul]
                rw [this]
                omega
          · rintro σ H4 ⟨o8, wb, rfl, s8, e8, eb, Uw, hw⟩
            rw [List.length_map, hh] at hw
            exact ⟨_, _, wb, rfl, s8, e8, eb, Uw, by rw [hw, Nat.add_mul]; omega⟩
        · rintro σ H3 ⟨o7, o8, wb, rfl, s7, e7, eb, Uw, hw⟩
          exact ⟨_, rfl, q br wb _ s7 Uw (by omega) nbr eb⟩
      · exact ⟨_, rfl, q ar ab _ s4 U (by omega) har ea⟩
    · exact iteF ⟨_, rfl, q ar ab _ s4 U (by omega) har ea⟩
end
end K09


set_option Elab.async false
set_option linter.all false
set_option maxRecDepth 100000
set_option maxHeartbeats 4000000
namespace K09
open PySem L2 KM KD PyProof.Rows
section
variable {P : Program} {w : World} {K : PySem.W.Frag} {mg : Str → Option Value} {base : Heap} {f : Addr} {fd : FuncData}
theorem scNames : FnScope ["_law_cells", "_law_many", "_law_names", "_law_k", "_law_cell"] ["_law_cells", "_law_many"] (defScope sNames) := ⟨rfl, rfl, rfl, by decide +kernel, rfl, by decide +kernel, by decide +kernel⟩
theorem insV (nm : List Nat) (k i : Nat) : (nm.map vN).take i ++ vN k :: (nm.map vN).drop i = (nm.take i ++ k :: nm.drop i).map vN := by
  rw [List.map_append, List.map_cons, List.map_take, List.map_drop]
theorem ok_names (F : Fun K "_law_names_by" "_law_names_by" sNames f fd) (ml : mg "len" = none) (mr : mg "range" = none) : FnOk P w K mg base CX0 1 f fd ["_law_cells", "_law_many"] spNames := by
  refine F.ok scNames (fun vs H Q E h => ?_) (fun cdv A outer s H vs Q E hr h => ?_)
  · obtain ⟨a, ns, m, rfl, _⟩ := h
    rfl
  obtain ⟨a, ns, m, rfl, ha, hm, hn, q⟩ := h
  refine ⟨_, pss_cons (ps_set (i := 2) scNames.nd rfl (Or.inl rfl) (pe_lst pa_nil))
    (pss_cons (ps_for PassesOwn.never rfl (pi_range1 rfl mr (pa_cons (pv 1) pa_nil)) (pg_name (i := 3) scNames.nd rfl (Or.inl rfl))
      (pss_cons (ps_set (i := 4) scNames.nd rfl (Or.inl rfl) (pv 3))
      (pss_cons (ps_if (pt_cmpR op_lt (pv 3) (pe_callB call_len_seq rfl ml PySem.boot_len (pa_cons (pv 0) pa_nil)) (nomark _))
        (pss_one (ps_set (i := 4) scNames.nd rfl (Or.inl rfl) (pe_op op_add (pe_op op_fdiv (pe_ix ix_list (pv 0) (pe_op op_sub (pe_op op_sub (pe_callB call_len_seq rfl ml PySem.boot_len (pa_cons (pv 0) pa_nil)) pe_int) (pv 3)) (fun _ _ => rfl)) pe_int) (pe_op op_mul pe_int (pv 3))))) pss_nil)
      (pss_one (ps_expr (pe_bm PySem.F.plainAttrs_list PySem.F.slot_list_insert PySem.F.type_list_insert mt_insert (pv 2) (pa_cons (pe_op op_mod (pv 4) (pe_op op_add (pv 3) pe_int)) (pa_cons (pv 3) pa_nil))))))))
    (pss_one (ps_ret (pv 2)))), ?_⟩
  have hl : (ns.map V.int).length = ns.length := List.length_map _
  refine ⟨(by show 0 ≤ sizeLine; decide), fun p hp => ?_⟩
  refine ⟨_, rfl, _, rfl, by omega, by omega, ?_⟩
  rw [Int.toNat_natCast]
  refine for_range (lo := 0) (n := m) (fun i σ H2 => ∃ (o3 o4 : Option V) (nm : List Nat), σ = [some (.ref a), some (vN m), some (.ref p), o3, o4] ∧ Same H H2 ∧ H2 p = some (.lst (nm.map vN)) ∧ nm.Perm (List.range i))
    ⟨none, none, [], rfl, same_new hp _, upd_same, List.Perm.refl _⟩ ?_ ?_
  · rintro i σ H2 hi ⟨o3, o4, nm, rfl, s2, e2, hnm⟩
    have hlen : nm.length = i := by rw [hnm.length_eq, List.length_range]
    have fin : ∀ {c : Int} {ox oy : Option V}, ∃ (o3 o4 : Option V) (nm' : List Nat), [some (V.ref a), some (vN m), some (.ref p), ox, oy] = [some (V.ref a), some (vN m), some (.ref p), o3, o4] ∧
        Same H (upd H2 p (.lst ((nm.map vN).take (c % ((0 + (i : Int)) + 1)).toNat ++ .int (0 + (i : Int)) :: (nm.map vN).drop (c % ((0 + (i : Int)) + 1)).toNat))) ∧
        (upd H2 p (.lst ((nm.map vN).take (c % ((0 + (i : Int)) + 1)).toNat ++ .int (0 + (i : Int)) :: (nm.map vN).drop (c % ((0 + (i : Int)) + 1)).toNat))) p = some (.lst (nm'.map vN)) ∧ nm'.Perm (List.range (i + 1)) := by
      intro c ox oy
      refine ⟨ox, oy, nm.take (c % ((0 + (i : Int)) + 1)).toNat ++ i :: nm.drop (c % ((0 + (i : Int)) + 1)).toNat, rfl, same_upd s2 hp _, ?_, perm_ins hnm⟩
      rw [upd_same, ← insV]
      have : V.int (0 + (i : Int)) = vN i := by rw [Int.zero_add]; rfl
      rw [this]
    have b0 : ∀ c : Int, 0 ≤ c % ((0 + (i : Int)) + 1) := fun c => Int.emod_nonneg c (by omega)
    have b1 : ∀ c : Int, c % ((0 + (i : Int)) + 1) ≤ (((nm.map vN).length : Nat) : Int) := fun c => by
      have := Int.emod_lt_of_pos c (show (0 : Int) < (0 + (i : Int)) + 1 by omega)
      rw [List.length_map, hlen]
      omega
    have b2 : (nm.map vN).length < sizeLine := by rw [List.length_map, hlen]; exact smallt (by omega)
    refine ⟨_, rfl, ?_⟩
    refine ⟨_, rfl, _, rfl, a, _, rfl, .inl (SqL.of (s2 _ _ ha)), _, _, rfl, rfl, _, rfl, ?_⟩
    refine ite2 (fun c => ?_) (fun _ => ?_)
    · have c' := of_decide_eq_true c
      rw [hl] at c'
      have hlt : ns.length - 1 - i < ns.length := by omega
      have hx : ns[ns.length - 1 - i]? = some ns[ns.length - 1 - i] := List.getElem?_eq_getElem hlt
      have ei : (((ns.map V.int).length : Nat) : Int) - 1 - (0 + (i : Int)) = ((ns.length - 1 - i : Nat) : Int) := by rw [hl]; omega
      refine ⟨_, rfl, _, rfl, a, _, rfl, .inl (SqL.of (s2 _ _ ha)), _, _, rfl, rfl, _, rfl, _, _, rfl, rfl, a, _, _, .int ns[ns.length - 1 - i], rfl, rfl, SqL.of (s2 _ _ ha), by rw [ei]; exact at_map hx, _, _, rfl, rfl, ⟨by decide, by decide⟩, _, rfl, _, _, rfl, rfl, .inl ⟨by decide, by decide⟩, _, _, rfl, rfl, ?_⟩
      exact ⟨_, rfl, .inl ⟨rfl, _, SqL.of e2⟩, _, rfl, _, rfl, _, _, rfl, rfl, _, _, rfl, rfl, (by show (0 : Int) < (0 + (i : Int)) + 1; omega), _, rfl, p, _, _, _, rfl, rfl, e2, b0 _, b1 _, b2, fin⟩
    · exact ⟨_, rfl, .inl ⟨rfl, _, SqL.of e2⟩, _, rfl, _, rfl, _, _, rfl, rfl, _, _, rfl, rfl, (by show (0 : Int) < (0 + (i : Int)) + 1; omega), _, rfl, p, _, _, _, rfl, rfl, e2, b0 _, b1 _, b2, fin⟩
  · rintro σ H2 ⟨o3, o4, nm, rfl, s2, e2, hnm⟩
    exact ⟨_, rfl, q p nm _ s2 hnm e2⟩
end
end K09


set_option Elab.async false
set_option linter.all false
set_option maxRecDepth 100000
set_option maxHeartbeats 4000000
namespace K09
open PySem L2 KM KD PyProof.Rows
section
variable {P : Program} {w : World} {K : PySem.W.Frag} {mg : Str → Option Value} {base : Heap} {f : Addr} {fd : FuncData}
theorem scBeside : FnScope ["tree", "lines", "beside", "line"] ["tree"] (defScope sKnotsBeside) := ⟨rfl, rfl, rfl, by decide +kernel, rfl, by decide +kernel, by decide +kernel⟩
theorem ndKn1 : (["knot"] : List Str).Nodup := by decide +kernel
theorem ok_beside {C : Addr} (F : Fun K "knots_beside" "knots_beside" sKnotsBeside f fd) (ml : mg "len" = none) (mr : mg "range" = none) (mn : mg "min" = none) (mx : mg "max" = none) (mC : mg "NoTree" = some (.ref C)) (xc : XC K C) : FnOk P w K mg base (CXe P w) 1 f fd ["tree"] (spBeside C) := by
  refine F.okX scBeside (fun vs H Q E h => ?_) (fun cdv A outer s H vs Q E hr h => ?_)
  · obtain ⟨t, L, ps, c, li, rfl, _⟩ := h
    rfl
  obtain ⟨t, L, ps, c, li, rfl, G, hn, q, qe⟩ := h
  refine ⟨_, pss_cons (ps_set (i := 1) scBeside.nd rfl (Or.inl rfl) (pe_ix ix_tup (pv 0) pe_int (fun _ _ => rfl)))
    (pss_cons (ps_if (pt_cmpR op_ne (pe_ix ix_tup (pv 0) pe_int (fun _ _ => rfl)) (pe_op op_add (pe_callB call_len_seq rfl ml PySem.boot_len (pa_cons (pv 1) pa_nil)) pe_int) (nomark _)) (pss_one (ps_raise xc rfl xraise rfl mC (pa_cons pe_str pa_nil))) pss_nil)
    (pss_cons (ps_setComp (N' := ["knot"]) (js := [none]) (i := 2) scBeside.nd rfl (Or.inl rfl) (CompOk.plain rfl (by decide +kernel) (by decide +kernel) rfl (by decide)) rfl
        (pi_range1 rfl mr (pa_cons (pe_ix ix_tup (pv 0) pe_int (fun _ _ => rfl)) pa_nil)) (fun _ _ _ _ => pg_name (i := 0) ndKn1 rfl (Or.inl rfl)) (fun _ _ _ _ => pif_nil) (fun _ _ _ _ => pe_lst pa_nil))
    (pss_cons (ps_for ownX rfl (pi_list (pv 1)) (pg_name (i := 3) scBeside.nd rfl (Or.inl rfl))
      (pss_cons (ps_if (PW.pt (pw_or (pt_cmpR op_lt (pe_callB (call_minT rfl) rfl mn PyProof.Rows.boot_min (pa_cons (pv 3) pa_nil)) pe_int (nomark _))
          (pw_or1 (pt_cmpR op_ge (pe_callB (call_maxT rfl) rfl mx PyProof.Rows.boot_max (pa_cons (pv 3) pa_nil)) (pe_callB call_len_seq rfl ml PySem.boot_len (pa_cons (pv 2) pa_nil)) (nomark _))))) (pss_one (ps_raise xc rfl xraise rfl mC (pa_cons pe_str pa_nil))) pss_nil)
      (pss_cons (ps_expr (pe_bm PySem.F.plainAttrs_list PySem.F.slot_list_append PySem.F.type_list_append mt_append (pe_ix ix_list (pv 2) (pe_ix ix_tup (pv 3) pe_int (fun _ _ => rfl)) (fun _ _ => rfl)) (pa_cons (pe_ix ix_tup (pv 3) pe_int (fun _ _ => rfl)) pa_nil)))
      (pss_one (ps_expr (pe_bm PySem.F.plainAttrs_list PySem.F.slot_list_append PySem.F.type_list_append mt_append (pe_ix ix_list (pv 2) (pe_ix ix_tup (pv 3) pe_int (fun _ _ => rfl)) (fun _ _ => rfl)) (pa_cons (pe_ix ix_tup (pv 3) pe_int (fun _ _ => rfl)) pa_nil)))))))
    (pss_one (ps_ret (pv 2)))))), ?_⟩
  have one : (1 : Nat) ≤ sizeLine := by decide
  have hpl : ps.length = li.length := by rw [G.ls.len, List.length_map]
  have hl : (ps.map V.ref).length = li.length := by rw [List.length_map, hpl]
  refine ⟨_, rfl, t, _, _, _, rfl, rfl, SqT.of G.tup, rfl, ?_⟩
  refine ⟨_, rfl, t, _, _, _, rfl, rfl, SqT.of G.tup, rfl, _, rfl, L, _, rfl, .inl (SqL.of G.ls.top), _, _, rfl, rfl, rfl, _, rfl, ?_⟩
  by_cases hc : c = ((li.length : Nat) : Int) + 1
  case neg =>
    rw [decide_eq_false (show ¬ V.int c = V.int ((((ps.map V.ref).length : Nat) : Int) + 1) from fun z => hc (by have := V.int.inj z; rw [hl] at this; exact this))]
    exact iteT ⟨one, qe (fun z => hc z.len) _ (Same.refl _)⟩
  refine iteNS (by rw [hl, hc]) ?_
  have hcn : c = ((li.length + 1 : Nat) : Int) := by omega
  refine ⟨_, rfl, t, _, _, _, rfl, rfl, SqT.of G.tup, rfl, c, rfl, by omega, by omega, ?_⟩
  rw [show c.toNat = li.length + 1 by omega]
  refine comp_range (fun D i ys τ H2 => (∃ o, τ = [o]) ∧ ∃ bs : List Addr, ys = bs.map V.ref ∧ bs.length = i ∧ bs.Nodup ∧ Same H H2 ∧ H D = none ∧ H2 D = some (.lst ys) ∧ ∀ b ∈ bs, H b = none ∧ H2 b = some (.lst []) ∧ b ≠ D)
    (fun D hD => ⟨⟨_, rfl⟩, [], rfl, rfl, List.nodup_nil, same_new hD _, hD, upd_same, fun b hb => (nomatch hb)⟩) ?_ ?_
  · rintro D i ys τ H2 hi ⟨⟨o, rfl⟩, bs, rfl, hbi, nd, s2, hD, e2, each⟩
    dsimp only [gName, tAlways]
    rw [if_pos rfl]
    refine ⟨(by show 0 ≤ sizeLine; decide), fun p hp => ?_⟩
    have hpD : D ≠ p := ne_of_none e2 hp
    refine ⟨by rw [upd_ne hpD]; exact e2, smallt (by rw [List.length_map]; omega), Nx.mk hi ⟨⟨_, rfl⟩, bs ++ [p], by rw [List.map_append]; rfl, by rw [List.length_append, hbi]; rfl, ?_, ?_, hD, upd_same, fun b hb => ?_⟩⟩
    · rw [List.nodup_append]
      refine ⟨nd, by simp, fun b hb b' hb' e => ?_⟩
      rw [List.mem_singleton] at hb'
      subst hb' e
      rw [(each _ hb).2.1] at hp
      cases hp
    · exact same_upd (s2.trans (same_new hp _)) hD _
    · rcases List.mem_append.mp hb with h | h
      · obtain ⟨h1, h2, h3⟩ := each b h
        exact ⟨h1, by rw [upd_ne h3, upd_ne (ne_of_none h2 hp)]; exact h2, h3⟩
      · rw [List.mem_singleton] at h
        subst h
        exact ⟨s2.free hp, by rw [upd_ne (Ne.symm hpD), upd_same], Ne.symm hpD⟩
  rintro D ys τ H2 ⟨_, bs, rfl, hbl, nd, s2, hD, e2, each⟩
  have B0 : LsAt H H2 D bs (near ((ofL li).take 0)) := ⟨s2, e2, nd, fun b hb => (each b hb).1, hD, fun k b h => (each b (List.mem_of_getElem? h)).2.1⟩
  have hbm : (bs.map V.ref).length = li.length + 1 := by rw [List.length_map, hbl]
  refine ⟨_, rfl, L, rfl, ⟨_, SqL.of (s2 _ _ G.ls.top)⟩, for_list (K := K) (a := L) (xs := ps.map V.ref) (fun i σ H3 => (∃ o, σ = [some (.ref t), some (.ref L), some (.ref D), o]) ∧ (∀ (j : Nat) (p : Int × Int), j < i → li[j]? = some p → (0 ≤ p.1 ∧ p.1 < c) ∧ 0 ≤ p.2 ∧ p.2 < c) ∧ LsAt H H3 D bs (near ((ofL li).take i)))
    ⟨⟨_, rfl⟩, fun j p h => absurd h (Nat.not_lt_zero _), B0⟩ (fun i σ H3 _ ⟨_, _, B⟩ => SqL.of (B.same _ _ G.ls.top)) ?_ ?_⟩
  · rintro i x σ H3 hx ⟨⟨o, rfl⟩, hin, B⟩
    obtain ⟨d, hd, rfl⟩ := of_map hx
    have hil : i < li.length := by rw [← hpl]; exact (List.getElem?_eq_some_iff.mp hd).1
    have hli : li[i]? = some li[i] := List.getElem?_eq_getElem hil
    obtain ⟨d', hd', ed'⟩ := LinesAt.at (G.ls.up B.same) hil
    rw [hd] at hd'
    cases hd'
    generalize hpq : li[i] = pq at hli ed'
    obtain ⟨pa, pb⟩ := pq
    have edI : SqT K H3 d ([pa, pb].map V.int) := SqT.of ed'
    have hmin : ∃ m, m ∈ [pa, pb] ∧ ∀ n ∈ [pa, pb], m ≤ n := by
      by_cases h : pa ≤ pb
      · exact ⟨pa, by simp, fun n hn => by rcases List.mem_cons.mp hn with rfl | hn; omega; rw [List.mem_singleton] at hn; omega⟩
      · exact ⟨pb, by simp, fun n hn => by rcases List.mem_cons.mp hn with rfl | hn; omega; rw [List.mem_singleton] at hn; omega⟩
    have hmax : ∃ m, m ∈ [pa, pb] ∧ ∀ n ∈ [pa, pb], n ≤ m := by
      by_cases h : pb ≤ pa
      · exact ⟨pa, by simp, fun n hn => by rcases List.mem_cons.mp hn with rfl | hn; omega; rw [List.mem_singleton] at hn; omega⟩
      · exact ⟨pb, by simp, fun n hn => by rcases List.mem_cons.mp hn with rfl | hn; omega; rw [List.mem_singleton] at hn; omega⟩
    obtain ⟨mi, mi1, mi2⟩ := hmin
    obtain ⟨ma, ma1, ma2⟩ := hmax
    have bad : ¬ ((0 ≤ pa ∧ pa < c) ∧ 0 ≤ pb ∧ pb < c) → ¬ ValidL c li := fun h z => h (z.lt _ (List.mem_of_getElem? hli))
    refine ⟨_, rfl, d, [pa, pb], mi, rfl, edI, mi1, mi2, _, _, rfl, rfl, _, rfl, ?_⟩
    by_cases hmi : mi < 0
    · rw [decide_eq_true hmi]
      refine iteT (iteT ⟨one, qe (bad fun z => ?_) _ B.same⟩)
      rcases List.mem_cons.mp mi1 with rfl | h
      · omega
      · rw [List.mem_singleton] at h; omega
    rw [decide_eq_false hmi]
    refine iteF ⟨_, rfl, d, [pa, pb], ma, rfl, edI, ma1, ma2, _, rfl, D, _, rfl, .inl (SqL.of B.top), _, _, rfl, rfl, _, rfl, ?_⟩
    by_cases hma : c ≤ ma
    · rw [decide_eq_true (show (((bs.map V.ref).length : Nat) : Int) ≤ ma by rw [hbm]; omega)]
      refine iteT ⟨one, qe (bad fun z => ?_) _ B.same⟩
      rcases List.mem_cons.mp ma1 with rfl | h
      · omega
      · rw [List.mem_singleton] at h; omega
    rw [decide_eq_false (show ¬ (((bs.map V.ref).length : Nat) : Int) ≤ ma by rw [hbm]; omega)]
    have g1 := mi2 pa (by simp)
    have g2 := mi2 pb (by simp)
    have g3 := ma2 pa (by simp)
    have g4 := ma2 pb (by simp)
    obtain ⟨x1, hx1⟩ := Int.eq_ofNat_of_zero_le (show 0 ≤ pa by omega)
    obtain ⟨x2, hx2⟩ := Int.eq_ofNat_of_zero_le (show 0 ≤ pb by omega)
    subst hx1 hx2
    have hb1 : x1 < bs.length := by omega
    have hb2 : x2 < bs.length := by omega
    have hc1 := List.getElem?_eq_getElem hb1
    have hc2 := List.getElem?_eq_getElem hb2
    have ec1 := B.each x1 _ hc1
    have hnl : ∀ k, (near ((ofL li).take i) k).length ≤ 1000 := fun k => by
      refine Nat.le_trans (near_len _ k) ?_
      rw [List.length_take]
      omega
    refine iteF ⟨_, rfl, _, rfl, d, _, _, _, rfl, rfl, SqT.of ed', rfl, D, _, _, _, rfl, rfl, SqL.of B.top, at_map hc1, .inl ⟨rfl, _, SqL.of ec1⟩, _, rfl, d, _, _, _, rfl, rfl, SqT.of ed', rfl, bs[x1], _, _, rfl, rfl, ec1, smallt (by rw [List.length_map]; exact Nat.le_trans (hnl x1) (by decide)), ?_⟩
    have B1 := B.push (x := x2) hc1
    have ed1 := LinesAt.at (G.ls.up B1.same) hil
    obtain ⟨d', hd', ed1⟩ := ed1
    rw [hd] at hd'
    cases hd'
    rw [hpq] at ed1
    have ec2 := B1.each x2 _ hc2
    refine ⟨_, rfl, _, rfl, d, _, _, _, rfl, rfl, SqT.of ed1, rfl, D, _, _, _, rfl, rfl, SqL.of B1.top, at_map hc2, .inl ⟨rfl, _, SqL.of ec2⟩, _, rfl, d, _, _, _, rfl, rfl, SqT.of ed1, rfl, bs[x2], _, _, rfl, rfl, ec2, ?_, ?_⟩
    · refine smallt ?_
      rw [List.length_map]
      have := hnl x2
      split
      · rw [List.length_append, List.length_singleton]; omega
      · omega
    have B2 := B1.push (x := x1) hc2
    refine ⟨⟨_, rfl⟩, fun j p hj hp => ?_, ?_⟩
    · by_cases e : j = i
      · subst e
        rw [hli] at hp
        cases hp
        exact ⟨⟨by omega, by omega⟩, by omega, by omega⟩
      · exact hin j p (by omega) hp
    · have hof : (ofL li).take (i + 1) = (ofL li).take i ++ [(x1, x2)] := by
        rw [List.take_add_one]
        have : (ofL li)[i]? = some (x1, x2) := by
          show (li.map _)[i]? = _
          rw [List.getElem?_map, hli]
          rfl
        rw [this]
        rfl
      have hfun : near ((ofL li).take (i + 1)) = fun j => if j = x2 then (if j = x1 then near ((ofL li).take i) j ++ [x2] else near ((ofL li).take i) j) ++ [x1] else (if j = x1 then near ((ofL li).take i) j ++ [x2] else near ((ofL li).take i) j) := by
        funext j
        rw [hof]
        exact near_two _ x1 x2 j
      rw [hfun]
      exact B2
  · rintro σ H3 ⟨⟨o, rfl⟩, hin, B⟩
    rw [hl, show (ofL li).take li.length = ofL li from List.take_of_length_le (by show (li.map _).length ≤ _; rw [List.length_map]; exact Nat.le_refl _)] at B
    rw [hl] at hin
    exact ⟨_, rfl, q ⟨hc, fun p hp => by
      obtain ⟨j, hj⟩ := List.mem_iff_getElem?.mp hp
      exact hin j p (List.getElem?_eq_some_iff.mp hj).1 hj⟩ D bs H3 B.same ⟨B.top, hbl, B.each⟩⟩
end
end K09


set_option Elab.async false
set_option linter.all false
set_option maxRecDepth 100000
set_option maxHeartbeats 4000000
namespace K09
open PySem L2 KM KD PyProof.Rows
section
variable {P : Program} {w : World} {K : PySem.W.Frag} {mg : Str → Option Value} {base : Heap} {f : Addr} {fd : FuncData}
theorem scWalked : FnScope ["beside", "start", "above", "order", "place", "knot", "met"] ["beside", "start"] (defScope sWalked) := ⟨rfl, rfl, rfl, by decide +kernel, rfl, by decide +kernel, by decide +kernel⟩
theorem ok_walked {C : Addr} (F : Fun K "walked" "walked" sWalked f fd) (ml : mg "len" = none) (mC : mg "NoTree" = some (.ref C)) (xc : XC K C) : FnOk P w K mg base (CXe P w) 1 f fd ["beside", "start"] (spWalked C) := by
  refine F.okX scWalked (fun vs H Q E h => ?_) (fun cdv A outer s H vs Q E hr h => ?_)
  · obtain ⟨b, bs, n, v, ls, rfl, _⟩ := h
    rfl
  obtain ⟨b, bs, n, v, ls, rfl, G, hv, hn, hln, hlt, q, qe⟩ := h
  refine ⟨_, pss_cons (ps_set (i := 2) scWalked.nd rfl (Or.inl rfl) (pe_disp (pps_cons (pv 1) pe_non pps_nil) rfl rfl (by decide) (by decide)))
    (pss_cons (ps_set (i := 3) scWalked.nd rfl (Or.inl rfl) (pe_lst (pa_cons (pv 1) pa_nil)))
    (pss_cons (ps_set (i := 4) scWalked.nd rfl (Or.inl rfl) pe_int)
    (pss_cons (ps_while ownX (pt_cmpR op_lt (pv 4) (pe_callB call_len_seq rfl ml PySem.boot_len (pa_cons (pv 3) pa_nil)) (nomark _))
      (pss_cons (ps_set (i := 5) scWalked.nd rfl (Or.inl rfl) (pe_ix ix_list (pv 3) (pv 4) (fun _ _ => rfl)))
      (pss_cons (ps_for ownX rfl (pi_list (pe_ix ix_list (pv 0) (pv 5) (fun _ _ => rfl))) (pg_name (i := 6) scWalked.nd rfl (Or.inl rfl))
        (pss_one (ps_if (pt_cmp (pc_dnotin hr.units1 (pv 6) (pv 2)))
          (pss_cons (ps_dput hr.units1 (pv 2) (pv 6) (pv 5) rfl)
          (pss_one (ps_expr (pe_bm PySem.F.plainAttrs_list PySem.F.slot_list_append PySem.F.type_list_append mt_append (pv 3) (pa_cons (pv 6) pa_nil))))) pss_nil)))
      (pss_one (ps_set (i := 4) scWalked.nd rfl (Or.inl rfl) (pe_op op_add (pv 4) pe_int))))))
    (pss_cons (ps_if (pt_cmpR op_ne (pe_callB call_len_seq rfl ml PySem.boot_len (pa_cons (pv 3) pa_nil)) (pe_callB call_len_seq rfl ml PySem.boot_len (pa_cons (pv 0) pa_nil)) (nomark _)) (pss_one (ps_raise xc rfl xraise rfl mC (pa_cons pe_str pa_nil))) pss_nil)
    (pss_one (ps_ret (pv 2))))))), ?_⟩
  intro d hd
  have hlb : (bs.map V.ref).length = n := by rw [List.length_map, G.len]
  refine ⟨_, rfl, upd_same, [(.inl (v : Int), .non)], rfl, (by show 1 ≤ 15; decide), ?_⟩
  have ekv : mergeK [] [((.inl (v : Int) : Key), V.non)] = kvW [v] (fun _ => none) := rfl
  rw [ekv]
  have s1 : Same H (upd (upd H d (.dK [])) d (.dK (kvW [v] fun _ => none))) := same_upd (same_new hd _) hd _
  have ed : (upd (upd H d (.dK [])) d (.dK (kvW [v] fun _ => none))) d = some (.dK (kvW [v] fun _ => none)) := upd_same
  generalize upd (upd H d (.dK [])) d (.dK (kvW [v] fun _ => none)) = H1 at s1 ed
  refine ⟨_, rfl, (by show 1 ≤ sizeLine; decide), fun o ho => ?_⟩
  have ho0 : H o = none := s1.free ho
  have hod : d ≠ o := ne_of_none ed ho
  refine while_by (fun σ H2 => ∃ (ord : List Nat) (pa : Nat → Option Nat) (pl : Nat) (o5 o6 : Option V), σ = [some (.ref b), some (vN v), some (.ref d), some (.ref o), some (vN pl), o5, o6] ∧ Same H H2 ∧ H2 d = some (.dK (kvW ord pa)) ∧ H2 o = some (.lst (ord.map vN)) ∧ GB ls n v ord pa pl)
    (fun σ _ => match σ with | [_, _, _, _, some (.int z), _, _] => n - z.toNat | _ => 0) ⟨[v], _, 0, _, _, rfl, s1.trans (same_new ho _), by rw [upd_ne hod]; exact ed, upd_same, gb0 hv⟩ ?_ ?_
  · rintro σ H2 ⟨ord, pa, pl, o5, o6, rfl, s2, e2, e3, B⟩
    have hl : (ord.map vN).length = ord.length := List.length_map _
    refine ⟨_, rfl, _, rfl, o, _, rfl, .inl (SqL.of e3), _, _, rfl, rfl, _, rfl, ?_⟩
    refine ite2 (fun c => ?_) (fun c => ?_)
    · have c' := of_decide_eq_true c
      rw [hl] at c'
      have hp : pl < ord.length := by omega
      have hk : ord[pl]? = some ord[pl] := List.getElem?_eq_getElem hp
      generalize ord[pl] = k at hk
      have hkl : k < n := B.lt _ (List.mem_of_getElem? hk)
      have hkb : k < bs.length := by rw [G.len]; exact hkl
      have hc : bs[k]? = some bs[k] := List.getElem?_eq_getElem hkb
      have ec := G.each k _ hc
      generalize bs[k] = cb at hc ec
      refine ⟨_, rfl, _, rfl, o, _, _, _, rfl, rfl, SqL.of e3, at_map hk, ?_⟩
      refine ⟨_, rfl, _, rfl, b, _, _, _, rfl, rfl, SqL.of (s2 _ _ G.top), at_map hc, cb, rfl, ⟨_, SqL.of (s2 _ _ ec)⟩, for_list (K := K) (a := cb) (xs := (near ls k).map vN)
        (fun i σ H3 => ∃ (ord : List Nat) (pa : Nat → Option Nat) (o6 : Option V), σ = [some (.ref b), some (vN v), some (.ref d), some (.ref o), some (vN pl), some (vN k), o6] ∧ Same H H3 ∧ H3 d = some (.dK (kvW ord pa)) ∧ H3 o = some (.lst (ord.map vN)) ∧ GB ls n v ord pa pl ∧ ord[pl]? = some k ∧ ∀ c ∈ (near ls k).take i, c ∈ ord)
        ⟨ord, pa, _, rfl, s2, e2, e3, B, hk, fun c hc => (nomatch hc)⟩ (fun i σ H3 _ ⟨_, _, _, _, s3, _⟩ => SqL.of (s3 _ _ ec)) ?_ ?_⟩
      · rintro i x σ H3 hx ⟨ord, pa, o6, rfl, s3, e2, e3, B, hk, hin⟩
        obtain ⟨c, hci, rfl⟩ := of_map hx
        have hcn : c ∈ near ls k := List.mem_of_getElem? hci
        have hcl : c < n := near_lt hlt hcn
        have htk : (near ls k).take (i + 1) = (near ls k).take i ++ [c] := by rw [List.take_add_one, hci]; rfl
        have hbl := B.len
        refine ⟨_, rfl, _, rfl, d, _, rfl, DGet.k (k := .inl (c : Int)) e2, ?_⟩
        by_cases hm : c ∈ ord
        · rw [kvW_some hm]
          refine ⟨_, rfl, iteF ⟨ord, pa, _, rfl, s3, e2, e3, B, hk, fun x hx => ?_⟩⟩
          rw [htk] at hx
          rcases List.mem_append.mp hx with hx | hx
          · exact hin x hx
          · rw [List.mem_singleton] at hx; subst hx; exact hm
        · rw [kvW_none.mpr hm]
          refine ⟨_, rfl, iteT ⟨_, rfl, _, rfl, _, rfl, d, _, rfl, DPut.k (k := .inl (c : Int)) e2 (smallt (by show (ord.map _).length ≤ _; rw [List.length_map]; omega)), ?_⟩⟩
          rw [kvW_meet hm]
          have e3' : (upd H3 d (.dK (kvW (ord ++ [c]) fun j => if j = c then some k else pa j))) o = some (.lst (ord.map vN)) := by rw [upd_ne (Ne.symm hod)]; exact e3
          refine ⟨_, rfl, .inl ⟨rfl, _, SqL.of e3'⟩, _, rfl, o, _, _, rfl, rfl, e3', smallt (by rw [List.length_map]; omega), ?_⟩
          refine ⟨ord ++ [c], _, some (vN c), rfl, same_upd (same_upd s3 hd _) ho0 _, by rw [upd_ne hod, upd_same], by rw [upd_same, List.map_append]; rfl, B.meet hk hcn hm hcl, ?_, fun x hx => ?_⟩
          · rw [List.getElem?_append_left (List.getElem?_eq_some_iff.mp hk).1]; exact hk
          · rw [htk] at hx
            rcases List.mem_append.mp hx with hx | hx
            · exact List.mem_append.mpr (.inl (hin x hx))
            · exact List.mem_append.mpr (.inr hx)
      · rintro σ H3 ⟨ord, pa, o6, rfl, s3, e2, e3, B, hk, hin⟩
        rw [List.length_map, List.take_length] at hin
        have B' := B.next hk hin
        have hle := B'.le
        have hbl := B.len
        refine ⟨_, rfl, _, _, rfl, rfl, ⟨ord, pa, pl + 1, some (vN k), o6, ?_, s3, e2, e3, B'⟩, ?_⟩
        · have e : ((pl : Nat) : Int) + 1 = ((pl + 1 : Nat) : Int) := by omega
          show [some (V.ref b), some (vN v), some (V.ref d), some (V.ref o), some (V.int ((pl : Int) + 1)), _, _] = _
          rw [e]
          rfl
        · show n - ((pl : Int) + 1).toNat < n - (pl : Int).toNat
          omega
    · have c' := of_decide_eq_false (Bool.eq_false_iff.mpr c)
      rw [hl] at c'
      have hp : pl = ord.length := by have := B.le; omega
      subst hp
      refine ⟨_, rfl, o, _, rfl, .inl (SqL.of e3), _, rfl, b, _, rfl, .inl (SqL.of (s2 _ _ G.top)), rfl, _, rfl, ?_⟩
      by_cases hw : ord.length = n
      · refine iteNS (by rw [hl, hlb, hw]) ?_
        exact ⟨_, rfl, q d ord pa H2 s2 hd e2 B hw⟩
      · rw [decide_eq_false (show ¬ V.int (((ord.map vN).length : Nat) : Int) = V.int (((bs.map V.ref).length : Nat) : Int) from fun z => hw (by have := V.int.inj z; rw [hl, hlb] at this; omega))]
        exact iteT ⟨(by show 1 ≤ sizeLine; decide), qe ord pa H2 s2 B hw⟩
  · rintro σ H2 Q1 Q2 hQ ⟨v1, h1, v2, h2, p2, ys, e1, e2, i, j, e3, e4, k, e5, h⟩
    exact ⟨v1, h1, v2, h2, p2, ys, e1, e2, i, j, e3, e4, k, e5, hQ _ _ h⟩
end
end K09


set_option Elab.async false
set_option linter.all false
set_option maxRecDepth 100000
set_option maxHeartbeats 4000000
namespace K09
open PySem L2 KM KD PyProof.Rows
section
variable {P : Program} {w : World} {K : PySem.W.Frag} {mg : Str → Option Value} {base : Heap} {f : Addr} {fd : FuncData}
theorem scHung : FnScope ["beside", "root", "above"] ["beside", "root"] (defScope sHungUp) := ⟨rfl, rfl, rfl, by decide +kernel, rfl, by decide +kernel, by decide +kernel⟩
theorem ndKnA : (["knot", "above"] : List Str).Nodup := by decide +kernel
theorem ok_hung {C f1 : Addr} {d1 : FuncData} (F : Fun K "hung_up" "hung_up" sHungUp f fd) (GW : KitE P w K mg base 1 "walked" ["beside", "start"] (spWalked C) f1 d1) (ml : mg "len" = none) (mr : mg "range" = none) : FnOk P w K mg base (CXe P w) 2 f fd ["beside", "root"] (spHung C) := by
  refine F.okX scHung (fun vs H Q E h => ?_) (fun cdv A outer s H vs Q E hr h => ?_)
  · obtain ⟨b, bs, n, v, ls, rfl, _⟩ := h
    rfl
  obtain ⟨b, bs, n, v, ls, rfl, G, hv, hn, hln, hlt, q, qe⟩ := h
  refine ⟨_, pss_cons (ps_set (i := 2) scHung.nd rfl (Or.inr rfl) (pe_call GW.ok hr rfl GW.mg GW.kp GW.bd .nil passX (pa_cons (pv 0) (pa_cons (pv 1) pa_nil))))
    (pss_one (ps_ret (pe_comp (N' := ["knot", "above"]) (js := [none, some 2])
        (CompOk.free1 (x := "above") (nms := [(".0", .local), ("knot", .local), ("above", .cell)]) rfl (by decide +kernel) (by decide +kernel) rfl rfl rfl rfl (by decide +kernel) (by
            intro j i h
            match j, h with
            | 0, h => cases h
            | 1, h => cases h; exact ⟨rfl, rfl⟩) rfl (Or.inl rfl)) rfl
        (pi_range1 rfl mr (pa_cons (pe_callB call_len_seq rfl ml PySem.boot_len (pa_cons (pv 0) pa_nil)) pa_nil)) (fun _ _ _ _ => pg_name (i := 0) ndKnA rfl (Or.inl rfl)) (fun _ _ _ _ => pif_nil) (fun _ _ _ _ => pe_dget hr.units1 (pv 1) (pv 0) (fun _ _ => rfl))))), ?_⟩
  have hlb : (bs.map V.ref).length = n := by rw [List.length_map, G.len]
  refine ⟨_, rfl, _, rfl, b, bs, n, v, ls, rfl, G, hv, hn, by omega, hlt, fun d ord pa H1 s1 _ ed B hw => ?_, fun ord pa H1 s1 B hw => qe (fun z => hw ((B.free_iff hln hv).mp z)) H1 s1⟩
  have hF := (B.free_iff hln hv).mpr hw
  have hat := B.hung_at hln hv hw
  have pm := nodup_full B.nd B.lt hw
  refine ⟨_, rfl, b, _, rfl, .inl (SqL.of (s1 _ _ G.top)), _, rfl, by omega, by rw [hlb]; omega, ?_⟩
  rw [hlb, Int.toNat_natCast]
  refine comp_range (fun D i ys τ H5 => (∃ o, τ = [o, some (.ref d)]) ∧ ys = ((hung n pa).take i).map vO ∧ Same H1 H5 ∧ H1 D = none ∧ H5 D = some (.lst ys)) (fun D hD => ⟨⟨_, rfl⟩, rfl, same_new hD _, hD, upd_same⟩) ?_ ?_
  · rintro D i ys τ H5 hi ⟨⟨o, rfl⟩, rfl, s5, hD, e5⟩
    dsimp only [gName, tAlways]
    rw [if_pos rfl]
    have hm : i ∈ ord := pm.mem_iff.mpr (List.mem_range.mpr hi)
    refine ⟨_, rfl, _, rfl, d, vO (pa i), rfl, .inl ⟨_, .inl (i : Int), .inl (s5 _ _ ed), rfl, (kvW_some hm).symm⟩, e5, smallt (by rw [List.length_map, List.length_take]; omega), Nx.mk hi ⟨⟨_, rfl⟩, ?_, same_upd s5 hD _, hD, upd_same⟩⟩
    rw [List.take_add_one, hung_get hi, List.map_append]
    rfl
  · rintro D ys τ H5 ⟨_, rfl, s5, hD, e5⟩
    rw [List.take_of_length_le (by rw [hung_len]; exact Nat.le_refl _), hat] at e5
    exact q hF D H5 (s1.trans s5) (s1.free hD) e5
theorem scRootedAt : FnScope ["tree", "knot"] ["tree", "knot"] (defScope sRootedAt) := ⟨rfl, rfl, rfl, by decide +kernel, rfl, by decide +kernel, by decide +kernel⟩
theorem ok_rootedAt {C f1 f2 : Addr} {d1 d2 : FuncData} (F : Fun K "rooted_at" "rooted_at" sRootedAt f fd) (GB : KitE P w K mg base 1 "knots_beside" ["tree"] (spBeside C) f1 d1) (GU : KitE P w K mg base 2 "hung_up" ["beside", "root"] (spHung C) f2 d2) : FnOk P w K mg base (CXe P w) 3 f fd ["tree", "knot"] (spRootedAt C) := by
  refine F.okX scRootedAt (fun vs H Q E h => ?_) (fun cdv A outer s H vs Q E hr h => ?_)
  · obtain ⟨t, L, ps, c, li, v, rfl, _⟩ := h
    rfl
  obtain ⟨t, L, ps, c, li, v, rfl, G, hn, hv, q, qe⟩ := h
  have hr1 : Room 1 _ := hr.mono (by decide)
  refine ⟨_, pss_one (ps_ret (pe_call GU.ok hr rfl GU.mg GU.kp GU.bd .nil passX (pa_cons (pe_call GB.ok hr1 rfl GB.mg GB.kp GB.bd .nil passX (pa_cons (pv 0) pa_nil)) (pa_cons (pv 1) pa_nil)))), ?_⟩
  have hol : (ofL li).length = li.length := List.length_map _
  refine ⟨_, rfl, t, L, ps, c, li, rfl, G, hn, fun hV b bs H1 s1 B => ?_, fun hV H1 s1 => qe (fun z => hV z.1) H1 s1⟩
  refine ⟨_, rfl, b, bs, li.length + 1, v, ofL li, rfl, B, hv, by omega, by rw [hol], hV.ofL, fun hF p H2 s2 hp ep => q ⟨hV, hF⟩ p H2 (s1.trans s2) (s1.free hp) ep, fun hF H2 s2 => qe (fun z => hF z.2) H2 (s1.trans s2)⟩
end
end K09


set_option Elab.async false
set_option linter.all false
set_option maxRecDepth 100000
set_option maxHeartbeats 4000000
namespace K09
open PySem L2 KM KD PyProof.Rows
section
variable {P : Program} {w : World} {K : PySem.W.Frag} {mg : Str → Option Value} {base : Heap} {f : Addr} {fd : FuncData}
theorem scFarness : FnScope ["beside", "knot", "above", "steps", "met"] ["beside", "knot"] (defScope sFarness) := ⟨rfl, rfl, rfl, by decide +kernel, rfl, by decide +kernel, by decide +kernel⟩
theorem ok_farness {C f1 : Addr} {d1 : FuncData} (F : Fun K "farness" "farness" sFarness f fd) (GW : KitE P w K mg base 1 "walked" ["beside", "start"] (spWalked C) f1 d1) (mx : mg "max" = none) : FnOk P w K mg base (CXe P w) 2 f fd ["beside", "knot"] (spFarness C) := by
  refine F.okX scFarness (fun vs H Q E h => ?_) (fun cdv A outer s H vs Q E hr h => ?_)
  · obtain ⟨b, bs, n, v, ls, rfl, _⟩ := h
    rfl
  obtain ⟨b, bs, n, v, ls, rfl, G, hv, hn, hln, hlt, q, qe⟩ := h
  refine ⟨_, pss_cons (ps_set (i := 2) scFarness.nd rfl (Or.inl rfl) (pe_call GW.ok hr rfl GW.mg GW.kp GW.bd .nil passX (pa_cons (pv 0) (pa_cons (pv 1) pa_nil))))
    (pss_cons (ps_set (i := 3) scFarness.nd rfl (Or.inl rfl) pe_dnewK)
    (pss_cons (ps_for ownX rfl (pi_dict (pv 2)) (pg_name (i := 4) scFarness.nd rfl (Or.inl rfl))
      (pss_one (ps_dput hr.units1 (pv 3) (pv 4) (pe_ifExp (pt_cmp (pc_isN (pe_dget hr.units1 (pv 2) (pv 4) (fun _ _ => rfl)))) pe_int
        (pe_op op_add (pe_dget hr.units1 (pv 3) (pe_dget hr.units1 (pv 2) (pv 4) (fun _ _ => rfl)) (fun _ _ => rfl)) pe_int)) rfl)))
    (pss_one (ps_ret (pe_callB (call_maxV rfl) rfl mx PyProof.Rows.boot_max (pa_cons (pe_bm0 PySem.F.plainAttrs_dict PySem.F.slot_dict_values PySem.F.type_dict_values mt_values (pv 3)) pa_nil)))))), ?_⟩
  refine ⟨_, rfl, _, rfl, b, bs, n, v, ls, rfl, G, hv, hn, by omega, hlt, fun d ord pa H1 s1 hd ed B hw => ?_, fun ord pa H1 s1 B hw => qe (fun z => hw ((B.free_iff hln hv).mp z)) H1 s1⟩
  have hF := (B.free_iff hln hv).mpr hw
  have pm := nodup_full B.nd B.lt hw
  have R := B.rooted hw hln
  obtain ⟨hla, ⟨rk, T⟩, fo⟩ := id R
  obtain ⟨dp, hdp⟩ := dep_fn T
  rw [hla] at hdp
  have hin : ∀ k, k ∈ ord ↔ k < n := fun k => by rw [pm.mem_iff, List.mem_range]
  intro st hst
  have hst0 : H st = none := s1.free hst
  have hds : d ≠ st := ne_of_none ed hst
  have ed2 : (upd H1 st (.dK [])) d = some (.dK (kvW ord pa)) := by rw [upd_ne hds]; exact ed
  refine ⟨_, rfl, d, _, rfl, ed2, fun ob => ?_⟩
  have hkl : (kvW ord pa).length = n := by unfold kvW; rw [List.length_map, hw]
  refine for_dict (d := d) (o := ob) (kvs := kvW ord pa) (fun i σ H5 => (∃ o4, σ = [some (.ref b), some (vN v), some (.ref d), some (.ref st), o4]) ∧ Same H H5 ∧ H5 d = some (.frz ob (.dK (kvW ord pa))) ∧ H5 st = some (.dK (kvW (ord.take i) fun k => some (dp k))))
    ⟨⟨_, rfl⟩, same_upd (s1.trans (same_new hst _)) hd _, upd_same, by rw [upd_ne (Ne.symm hds), upd_same]; rfl⟩ (fun i σ H5 _ ⟨_, _, h, _⟩ => h) ?_ ?_
  · rintro i kv σ H5 hkv ⟨⟨o4, rfl⟩, s5, e5, f5⟩
    have hkv' : (ord.map fun k : Nat => ((.inl (k : Int) : Key), vO (pa k)))[i]? = some kv := hkv
    rw [List.getElem?_map] at hkv'
    cases hk : ord[i]? with
    | none => rw [hk] at hkv'; cases hkv'
    | some k =>
      rw [hk] at hkv'
      have e0 : ((.inl (k : Int) : Key), vO (pa k)) = kv := Option.some.inj hkv'
      subst e0
      have hkm : k ∈ ord := List.mem_of_getElem? hk
      have hkn : k < n := (hin k).mp hkm
      have hnt := not_mem_take B.nd hk
      have htk : ord.take (i + 1) = ord.take i ++ [k] := by rw [List.take_add_one, hk]; rfl
      have hsm : (kvW (ord.take i) fun k => some (dp k)).length < sizeLine := smallt (by unfold kvW; rw [List.length_map, List.length_take]; omega)
      have gd : DGet H5 d (V.int (k : Int)) (some (vO (pa k))) := .inl ⟨_, .inl (k : Int), .inr ⟨ob, e5⟩, rfl, (kvW_some hkm).symm⟩
      have hhu := hung_get (pa := pa) hkn
      cases hpk : pa k with
      | none =>
        rw [hpk] at gd hhu
        have h0 : dp k = 0 := (hdp k hkn).det (.root hhu)
        refine ⟨_, rfl, _, rfl, d, _, rfl, gd, _, rfl, iteT ⟨_, rfl, _, rfl, st, _, rfl, DPut.k (k := .inl (k : Int)) f5 hsm, ⟨_, rfl⟩, same_upd s5 hst0 _, by rw [upd_ne hds]; exact e5, ?_⟩⟩
        rw [upd_same, htk, ← kvW_put hnt]
        show some (HO.dK (putK _ _ (V.int 0))) = some (HO.dK (putK _ _ (vO (some (dp k)))))
        rw [h0]
        rfl
      | some p =>
        rw [hpk] at gd hhu
        obtain ⟨hpl, _⟩ := T.up k p hhu
        rw [hla] at hpl
        have h0 : dp k = dp p + 1 := (hdp k hkn).det (.up hhu (hdp p hpl))
        have hp0 : 0 < i := by
          rcases Nat.eq_zero_or_pos i with z | z
          · subst z
            obtain ⟨t, ht⟩ := B.head
            rw [ht] at hk
            have : v = k := Option.some.inj hk
            subst this
            rw [B.pav] at hpk
            cases hpk
          · exact z
        obtain ⟨j, k2, hj, hk2, hp2, _⟩ := B.up i k hp0 hk
        rw [hpk] at hp2
        have : p = k2 := Option.some.inj hp2
        subst this
        have hpt : p ∈ ord.take i := mem_take_of hk2 hj
        have gs : DGet H5 st (V.int (p : Int)) (some (vO (some (dp p)))) := .inl ⟨_, .inl (p : Int), .inl f5, rfl, (kvW_some (pa := fun k => some (dp k)) hpt).symm⟩
        refine ⟨_, rfl, _, rfl, d, _, rfl, gd, _, rfl, iteF ⟨_, rfl, _, rfl, _, rfl, d, _, rfl, gd, st, _, rfl, gs, _, _, rfl, rfl, _, rfl, _, rfl, st, _, rfl, DPut.k (k := .inl (k : Int)) f5 hsm, ⟨_, rfl⟩, same_upd s5 hst0 _, by rw [upd_ne hds]; exact e5, ?_⟩⟩
        rw [upd_same, htk, ← kvW_put hnt]
        show some (HO.dK (putK _ _ (V.int (((dp p : Nat) : Int) + 1)))) = some (HO.dK (putK _ _ (vO (some (dp k)))))
        rw [h0]
        rfl
  · rintro σ H5 ⟨⟨o4, rfl⟩, s5, e5, f5⟩
    rw [hkl, ← hw, List.take_length] at f5
    have hne : ord.map dp ≠ [] := fun z => by
      have : ord = [] := List.map_eq_nil_iff.mp z
      rw [this] at hw
      simp at hw
      omega
    obtain ⟨m, hm, hle⟩ := exists_most _ hne
    refine ⟨_, rfl, .inr (.inr (.inl ⟨rfl, .inl ⟨_, f5⟩⟩)), st, _, rfl, rfl, f5, fun p hp => ?_⟩
    have hsp : st ≠ p := ne_of_none f5 hp
    refine ⟨p, st, _, (ord.map dp).map fun n : Nat => (n : Int), (m : Int), rfl, upd_same, by rw [upd_ne hsp]; exact f5, kvW_vals ord dp, List.mem_map_of_mem hm, fun x hx => ?_, ?_⟩
    · obtain ⟨y, hy, rfl⟩ := List.mem_map.mp hx
      have := hle y hy
      omega
    · have E : Ecc n ls v m := ecc_of R (fun k e hk he => by
        rw [he.det (hdp k hk)]
        exact hle _ (List.mem_map_of_mem ((hin k).mpr hk))) (by
        obtain ⟨k, hk, e⟩ := List.mem_map.mp hm
        have hk' := (hin k).mp hk
        exact ⟨k, hk', by rw [← e]; exact hdp k hk'⟩)
      rw [← ecc_eq hF hv E]
      exact q hF _ (s5.trans (same_new hp _))
end
end K09


set_option Elab.async false
set_option linter.all false
set_option maxRecDepth 100000
set_option maxHeartbeats 4000000
namespace K09
open PySem L2 KM KD PyProof.Rows
section
variable {P : Program} {w : World} {K : PySem.W.Frag} {mg : Str → Option Value} {base : Heap} {f : Addr} {fd : FuncData}
theorem scMiddles : FnScope ["tree", "beside", "farnesses", "least"] ["tree"] (defScope sMiddles) := ⟨rfl, rfl, rfl, by decide +kernel, rfl, by decide +kernel, by decide +kernel⟩
theorem ndKBm : (["knot", "beside"] : List Str).Nodup := by decide +kernel
theorem ndKFL : (["knot", "far", "least"] : List Str).Nodup := by decide +kernel
theorem ok_middles {C f1 f2 : Addr} {d1 d2 : FuncData} (F : Fun K "middles" "middles" sMiddles f fd) (GB : KitE P w K mg base 1 "knots_beside" ["tree"] (spBeside C) f1 d1) (GF : KitE P w K mg base 2 "farness" ["beside", "knot"] (spFarness C) f2 d2)
    (ml : mg "len" = none) (mr : mg "range" = none) (mm : mg "min" = none) (me : mg "enumerate" = none) : FnOk P w K mg base (CXe P w) 3 f fd ["tree"] (spMiddles C) := by
  refine F.okX scMiddles (fun vs H Q E h => ?_) (fun cdv A outer s H vs Q E hr h => ?_)
  · obtain ⟨t, L, ps, c, li, rfl, _⟩ := h
    rfl
  obtain ⟨t, L, ps, c, li, rfl, G, hn, q, qe⟩ := h
  have hr1 : Room 1 _ := hr.mono (by decide)
  refine ⟨_, pss_cons (ps_set (i := 1) scMiddles.nd rfl (Or.inr rfl) (pe_call GB.ok hr1 rfl GB.mg GB.kp GB.bd .nil passX (pa_cons (pv 0) pa_nil)))
    (pss_cons (ps_setCompE (N' := ["knot", "beside"]) (js := [none, some 1]) (i := 2) scMiddles.nd rfl (Or.inl rfl)
          (CompOk.free1 (x := "beside") (nms := [(".0", .local), ("knot", .local), ("farness", .globalImplicit), ("beside", .cell)]) rfl (by decide +kernel) (by decide +kernel) rfl rfl rfl rfl (by decide +kernel) (by
            intro j i h
            match j, h with
            | 0, h => cases h
            | 1, h => cases h; exact ⟨rfl, rfl⟩) rfl (Or.inl rfl))
          (pi_range1 rfl mr (pa_cons (pe_callB call_len_seq rfl ml PySem.boot_len (pa_cons (pv 1) pa_nil)) pa_nil)) (fun _ _ _ _ => pg_name (i := 0) ndKBm rfl (Or.inl rfl)) (fun _ _ _ _ => pif_nil)
          (fun _ _ _ _ _ pass => pe_call GF.ok hr rfl GF.mg GF.kp GF.bd .nil pass (pa_cons (pv 1) (pa_cons (pv 0) pa_nil))))
    (pss_cons (ps_set (i := 3) scMiddles.nd rfl (Or.inr rfl) (pe_callB (call_minL rfl) rfl mm PyProof.Rows.boot_min (pa_cons (pv 2) pa_nil)))
    (pss_one (ps_ret (pe_comp (N' := ["knot", "far", "least"]) (js := [none, none, some 3])
        (CompOk.free1 (x := "least") (nms := [(".0", .local), ("knot", .local), ("far", .local), ("least", .cell)]) rfl (by decide +kernel) (by decide +kernel) rfl rfl rfl rfl (by decide +kernel) (by
            intro j i h
            match j, h with
            | 0, h => cases h
            | 1, h => cases h
            | 2, h => cases h; exact ⟨rfl, rfl⟩) rfl (Or.inl rfl)) rfl
        (pi_enum rfl me (pa_cons (pv 2) pa_nil)) (fun _ _ _ _ => pg_tupC (n := 2) rfl (pgs_cons (pg_name (i := 0) ndKFL rfl (Or.inl rfl)) (pgs_cons (pg_name (i := 1) ndKFL rfl (Or.inl rfl)) pgs_nil)))
        (fun _ _ _ _ => pif_one (pt_cmpR op_eq (pv 1) (pv 2) (nomark _))) (fun _ _ _ _ => pv 0)))))), ?_⟩
  have hol : (ofL li).length = li.length := List.length_map _
  refine ⟨_, rfl, t, L, ps, c, li, rfl, G, hn, fun hV b bs H1 s1 B => ?_, fun hV H1 s1 => qe (fun z => hV z.1) H1 s1⟩
  have hlb : (bs.map V.ref).length = li.length + 1 := by rw [List.length_map, B.len]
  refine ⟨_, rfl, b, _, rfl, .inl (SqL.of B.top), _, rfl, by omega, by rw [hlb]; omega, ?_⟩
  rw [hlb, Int.toNat_natCast]
  by_cases hF : IsFree (li.length + 1) (ofL li)
  · have hel := eccs_len (li.length + 1) (ofL li)
    refine comp_range (fun D i ys τ H5 => (∃ o, τ = [o, some (.ref b)]) ∧ ys = ((eccs (li.length + 1) (ofL li)).take i).map vN ∧ Same H1 H5 ∧ H1 D = none ∧ H5 D = some (.lst ys)) (fun D hD => ⟨⟨_, rfl⟩, rfl, same_new hD _, hD, upd_same⟩) ?_ ?_
    · rintro D i ys τ H5 hi ⟨⟨o, rfl⟩, rfl, s5, hD, e5⟩
      dsimp only [gName, tAlways]
      rw [if_pos rfl]
      refine ⟨_, rfl, _, rfl, b, bs, li.length + 1, i, ofL li, rfl, B.up s5, hi, by omega, by rw [hol], hV.ofL, fun _ H6 s6 => ?_, fun h => absurd hF h⟩
      refine ⟨s6 _ _ e5, smallt (by rw [List.length_map, List.length_take]; omega), Nx.mk hi ⟨⟨_, rfl⟩, ?_, same_upd (s5.trans s6) hD _, hD, upd_same⟩⟩
      rw [List.take_add_one, eccs_get hi, List.map_append]
      rfl
    · rintro D ys τ H5 ⟨_, rfl, s5, hD, e5⟩
      rw [List.take_of_length_le (by rw [hel]; exact Nat.le_refl _)] at e5
      obtain ⟨m, hm, hle⟩ := least_ecc (n := li.length + 1) (ofL li) (Nat.succ_pos _)
      have e5' := e5
      rw [vN_int] at e5'
      refine ⟨_, rfl, D, _, (m : Int), rfl, SqL.of e5', List.mem_map_of_mem hm, fun x hx => ?_, ?_⟩
      · obtain ⟨y, hy, rfl⟩ := List.mem_map.mp hx
        have := hle y hy
        omega
      refine ⟨_, rfl, D, rfl, ⟨_, SqL.of e5⟩, ?_⟩
      refine comp_enumF (K := K) (a := D) (xs := (eccs (li.length + 1) (ofL li)).map vN) (fun D2 i ys τ H6 => (∃ o1 o2, τ = [o1, o2, some (vN m)]) ∧ ys = (midTo (li.length + 1) (ofL li) m i).map vN ∧ Same H5 H6 ∧ H5 D2 = none ∧ H6 D2 = some (.lst ys))
        (fun D2 hD2 => ⟨⟨_, _, rfl⟩, rfl, same_new hD2 _, hD2, upd_same⟩) (fun D2 i ys τ H6 _ ⟨_, _, s6, _⟩ => SqL.of (s6 _ _ e5)) ?_ ?_
      · rintro D2 i x p ys τ H6 hx ⟨⟨o1, o2, rfl⟩, rfl, s6, hD2, e6⟩ hp
        have hx' := (List.getElem?_eq_some_iff.mp hx).1
        have hil : i < li.length + 1 := by rw [List.length_map, hel] at hx'; exact hx'
        obtain ⟨y, hy, rfl⟩ := of_map hx
        rw [eccs_get hil] at hy
        have ey : ecc (li.length + 1) (ofL li) i = y := Option.some.inj hy
        subst ey
        have s7 : Same H5 (upd H6 p (.tup [.int i, vN (ecc (li.length + 1) (ofL li) i)])) := s6.trans (same_new hp _)
        have e7 : (upd H6 p (.tup [.int i, vN (ecc (li.length + 1) (ofL li) i)])) D2 = some (.lst ((midTo (li.length + 1) (ofL li) m i).map vN)) := same_new hp _ _ _ e6
        have hml := midTo_len (li.length + 1) m i (ofL li)
        refine ⟨p, _, rfl, SqT.of upd_same, rfl, _, _, rfl, _, _, rfl, rfl, ?_⟩
        refine ⟨_, rfl, _, rfl, rfl, decide (ecc (li.length + 1) (ofL li) i = m), ?_, ?_⟩
        · show V.bl (decide (vN (ecc (li.length + 1) (ofL li) i) = vN m)) = _
          congr 1
          by_cases z : ecc (li.length + 1) (ofL li) i = m
          · rw [z]; exact (decide_eq_true rfl).trans (decide_eq_true rfl).symm
          · rw [decide_eq_false z, decide_eq_false fun y => z (by have := V.int.inj y; omega)]
        by_cases z : ecc (li.length + 1) (ofL li) i = m
        · rw [decide_eq_true z]
          dsimp only
          rw [if_pos rfl]
          refine ⟨_, rfl, e7, smallt (by rw [List.length_map]; omega), Nx.mk hx' ⟨⟨_, _, rfl⟩, ?_, same_upd s7 hD2 _, hD2, upd_same⟩⟩
          rw [midTo_hit z, List.map_append]
          rfl
        · rw [decide_eq_false z]
          dsimp only
          rw [if_neg Bool.false_ne_true]
          exact Nx.mk hx' ⟨⟨_, _, rfl⟩, by rw [midTo_miss z], s7, hD2, e7⟩
      · rintro D2 ys τ H6 ⟨_, rfl, s6, hD2, e6⟩
        rw [List.length_map, hel, midTo_all hm hle] at e6
        have s16 := s1.trans (s5.trans s6)
        exact q ⟨hV, hF⟩ D2 H6 s16 ((s1.trans s5).free hD2) e6
  · refine comp_range (fun D i ys τ H5 => i = 0 ∧ (∃ o, τ = [o, some (.ref b)]) ∧ Same H1 H5) (fun D hD => ⟨rfl, ⟨_, rfl⟩, same_new hD _⟩) ?_ ?_
    · rintro D i ys τ H5 hi ⟨rfl, ⟨o, rfl⟩, s5⟩
      dsimp only [gName, tAlways]
      rw [if_pos rfl]
      exact ⟨_, rfl, _, rfl, b, bs, li.length + 1, 0, ofL li, rfl, B.up s5, hi, by omega, by rw [hol], hV.ofL, fun h => absurd h hF, fun h H6 s6 => qe (fun z => hF z.2) _ (s1.trans (s5.trans s6))⟩
    · rintro D ys τ H5 ⟨z, _⟩
      omega
end
end K09


set_option Elab.async false
set_option linter.all false
set_option maxRecDepth 100000
set_option maxHeartbeats 4000000
namespace K09
open PySem L2 KM KD PyProof.Rows
section
variable {P : Program} {w : World} {K : PySem.W.Frag} {mg : Str → Option Value} {base : Heap} {f : Addr} {fd : FuncData}
theorem scFreeForm : FnScope ["tree", "roots", "parts"] ["tree"] (defScope sFreeForm) := ⟨rfl, rfl, rfl, by decide +kernel, rfl, by decide +kernel, by decide +kernel⟩
theorem ok_freeForm {C f1 f2 f3 f4 : Addr} {d1 d2 d3 d4 : FuncData} (F : Fun K "free_form" "free_form" sFreeForm f fd) (GM : KitE P w K mg base 3 "middles" ["tree"] (spMiddles C) f1 d1) (GR : KitE P w K mg base 3 "rooted_at" ["tree", "knot"] (spRootedAt C) f2 d2)
    (GF : KitE P w K mg base 3 "form_of" ["above"] (spFormX C) f3 d3) (GK : KitD P w K mg base 2 "knot_forms" ["above", "marked"] (spKnots C) f4 d4) (ml : mg "len" = none) (ms : mg "sorted" = none) : FnOk P w K mg base (CXe P w) 4 f fd ["tree"] (spFreeForm C) := by
  refine F.okX scFreeForm (fun vs H Q E h => ?_) (fun cdv A outer s H vs Q E hr h => ?_)
  · obtain ⟨t, L, ps, c, li, rfl, _⟩ := h
    rfl
  obtain ⟨t, L, ps, c, li, rfl, G, hn, q, qe⟩ := h
  have hr2 : Room 2 _ := hr.mono (by decide)
  refine ⟨_, pss_cons (ps_set (i := 1) scFreeForm.nd rfl (Or.inl rfl) (pe_call GM.ok hr rfl GM.mg GM.kp GM.bd .nil passX (pa_cons (pv 0) pa_nil)))
    (pss_cons (ps_if (pt_cmpR op_eq (pe_callB call_len_seq rfl ml PySem.boot_len (pa_cons (pv 1) pa_nil)) pe_int (nomark _))
      (pss_one (ps_ret (pe_call GF.ok hr rfl GF.mg GF.kp GF.bd .nil passX (pa_cons (pe_call GR.ok hr rfl GR.mg GR.kp GR.bd .nil passX (pa_cons (pv 0) (pa_cons (pe_ix ix_list (pv 1) pe_int (fun _ _ => rfl)) pa_nil))) pa_nil)))) pss_nil)
    (pss_cons (ps_set (i := 2) scFreeForm.nd rfl (Or.inl rfl) (pe_lst
      (pa_cons (pe_ix ix_list (pe_call GK.ok hr2 rfl GK.mg GK.kp GK.bd1 vals_non passX (pa_cons (pe_call GR.ok hr rfl GR.mg GR.kp GR.bd .nil passX (pa_cons (pv 0) (pa_cons (pe_ix ix_list (pv 1) pe_int (fun _ _ => rfl)) pa_nil))) pa_nil)) (pe_ix ix_list (pv 1) pe_int (fun _ _ => rfl)) (fun _ _ => rfl))
      (pa_cons (pe_ix ix_list (pe_call GK.ok hr2 rfl GK.mg GK.kp GK.bd1 vals_non passX (pa_cons (pe_call GR.ok hr rfl GR.mg GR.kp GR.bd .nil passX (pa_cons (pv 0) (pa_cons (pe_ix ix_list (pv 1) pe_int (fun _ _ => rfl)) pa_nil))) pa_nil)) (pe_ix ix_list (pv 1) pe_int (fun _ _ => rfl)) (fun _ _ => rfl)) pa_nil))))
    (pss_one (ps_ret (pe_bm PySem.F.plainAttrs_str PySem.F.slot_str_join PySem.F.type_str_join mt_join pe_str (pa_cons (pe_callB call_sortedS rfl ms boot_sorted (pa_cons (pv 2) pa_nil)) pa_nil)))))), ?_⟩
  refine ⟨_, rfl, t, L, ps, c, li, rfl, G, hn, fun hF rt H1 s1 hrt ert => ?_, fun hF H1 s1 => qe hF _ s1⟩
  have hF2 := hF.2
  have G1 := G.up s1
  obtain ⟨n, hnl⟩ : ∃ n, n = li.length + 1 := ⟨_, rfl⟩
  have hn0 : 0 < n := by omega
  have hff := q hF
  rw [← hnl] at ert hF2 hff
  have Q0 : ∀ (v : Nat), v < n → ∀ (p : Addr) (H3 : Hp), H3 p = some (.lst ((At n (ofL li) v).map vO)) → H3 p = some (.lst (((At n (ofL li) v).map toI).map vI)) ∧ ((At n (ofL li) v).map toI).length < 64 := fun v hv p H3 e => by
    obtain ⟨hal, _, _⟩ := at_spec hF2 hv
    exact ⟨by rw [map_vI]; exact e, by rw [List.length_map, hal]; omega⟩
  rcases mids_cases hF2 hn0 with ⟨m, em⟩ | ⟨a, b, em, hab, hj⟩
  · have hml : m < n := mids_lt (ls := ofL li) (by rw [em]; simp)
    rw [ff_one em] at hff
    rw [em] at ert
    refine ⟨_, rfl, rt, _, rfl, .inl (SqL.of ert), rfl, true, rfl, iteT ?_⟩
    refine ⟨_, rfl, _, rfl, rt, _, _, _, rfl, rfl, SqL.of ert, at_map (xs := [m]) (i := 0) rfl, t, L, ps, c, li, m, rfl, G1, hn, by omega, fun _ p H2 s2 hp ep => ?_, fun h => absurd hF h⟩
    rw [← hnl] at ep
    obtain ⟨hal, ⟨rk, T⟩, _⟩ := at_spec hF2 hml
    obtain ⟨ep', hal'⟩ := Q0 m hml p H2 ep
    refine ⟨p, _, rfl, ep', hal', fun ab r rk' H3 e T' s3 => ?_, fun h => absurd (rtd_of rfl T) h⟩
    have e' := toI_inj e
    have hr0 : r = m := by rw [← e'] at T'; exact T.only r T'.root
    rw [← e', hr0]
    exact hff _ (s1.trans (s2.trans s3))
  · have hal : a < n := mids_lt (ls := ofL li) (by rw [em]; simp)
    have hbl : b < n := mids_lt (ls := ofL li) (by rw [em]; simp)
    rw [ff_two em] at hff
    rw [em] at ert
    refine ⟨_, rfl, rt, _, rfl, .inl (SqL.of ert), rfl, false, rfl, iteF ?_⟩
    refine ⟨_, rfl, _, rfl, rt, _, _, _, rfl, rfl, SqL.of ert, at_map (xs := [a, b]) (i := 1) rfl, t, L, ps, c, li, b, rfl, G1, hn, by omega, fun _ p H2 s2 hp ep => ?_, fun h => absurd hF h⟩
    rw [← hnl] at ep
    obtain ⟨hlb, ⟨rkb, Tb⟩, _⟩ := at_spec hF2 hbl
    obtain ⟨hla, ⟨rka, Ta⟩, _⟩ := at_spec hF2 hal
    obtain ⟨ep', hpl⟩ := Q0 b hbl p H2 ep
    refine ⟨p, _, none, rfl, ep', hpl, fun ab r rk' p3 H3 e T' s3 hp3 ep3 => ?_, fun h => absurd (rtd_of rfl Tb) h⟩
    have e' := toI_inj e
    subst e'
    have s13 := s2.trans s3
    refine ⟨_, rfl, rt, _, _, _, rfl, rfl, SqL.of (s13 _ _ ert), at_map (xs := [a, b]) (i := 0) rfl, p3, _, _, _, rfl, rfl, SqL.of ep3, at_map (fms_get (by rw [hlb]; exact hal)), ?_⟩
    rw [fmM_none]
    refine ⟨_, rfl, _, rfl, rt, _, _, _, rfl, rfl, SqL.of (s13 _ _ ert), at_map (xs := [a, b]) (i := 0) rfl, t, L, ps, c, li, a, rfl, G1.up s13, hn, by omega, fun _ p4 H4 s4 hp4 ep4 => ?_, fun h => absurd hF h⟩
    rw [← hnl] at ep4
    obtain ⟨ep4', hpl4⟩ := Q0 a hal p4 H4 ep4
    refine ⟨p4, _, none, rfl, ep4', hpl4, fun ab r rk' p5 H5 e T' s5 hp5 ep5 => ?_, fun h => absurd (rtd_of rfl Ta) h⟩
    have e' := toI_inj e
    subst e'
    have s15 := s13.trans (s4.trans s5)
    refine ⟨_, rfl, rt, _, _, _, rfl, rfl, SqL.of (s15 _ _ ert), at_map (xs := [a, b]) (i := 1) rfl, p5, _, _, _, rfl, rfl, SqL.of ep5, at_map (fms_get (by rw [hla]; exact hbl)), ?_⟩
    rw [fmM_none]
    refine ⟨(by show 2 ≤ sizeLine; decide), fun pp hpp => ?_⟩
    have l1 : (br n (ofL li) b a).length ≤ 2 * 64 * 64 := Nat.le_trans (br_len hF2 (near_symm hj)) (Nat.mul_le_mul (Nat.mul_le_mul (Nat.le_refl _) (by omega)) (by omega))
    have l2 : (br n (ofL li) a b).length ≤ 2 * 64 * 64 := Nat.le_trans (br_len hF2 hj) (Nat.mul_le_mul (Nat.mul_le_mul (Nat.le_refl _) (by omega)) (by omega))
    have epp : (upd H5 pp (.lst [vT (fm (At n (ofL li) b) a), vT (fm (At n (ofL li) a) b)])) pp = some (.lst (([br n (ofL li) b a, br n (ofL li) a b].map mkS).map V.str)) := upd_same
    have s6 := same_new hpp (.lst [vT (fm (At n (ofL li) b) a), vT (fm (At n (ofL li) a) b)])
    generalize upd H5 pp (.lst [vT (fm (At n (ofL li) b) a), vT (fm (At n (ofL li) a) b)]) = H6 at epp s6
    refine ⟨rfl, _, rfl, pp, _, rfl, SqL.of epp, (by show 2 < 64; decide), fun l ss' h1 h2 h3 => ?_⟩
    have es := sorted_is h1 h2
    subst es
    obtain ⟨x, y, exy, hxy⟩ := srt_two (br n (ofL li) b a) (br n (ofL li) a b)
    rw [dash_two exy] at hff
    refine ⟨_, l, (srt [br n (ofL li) b a, br n (ofL li) a b]).map mkS, rfl, rfl, SqL.of upd_same, ?_, ?_⟩
    · rw [exy]
      have e1 : (Str.ofString "-").length = 1 := by rw [dashS]; rfl
      show ((mkS x).length + ((mkS y).length + 0)) + 2 * _ ≤ 16777216
      rw [e1, mkS_len, mkS_len]
      omega
    · rw [exy]
      show Q (V.str (Txt.join (Str.ofString "-") [mkS x, mkS y])) _
      rw [join_dash]
      exact hff _ (s1.trans (s15.trans (s6.trans (same_new h3 _))))
end
end K09


set_option Elab.async false
set_option linter.all false
set_option maxRecDepth 100000
set_option maxHeartbeats 4000000
namespace K09
open PySem L2 KM KD PyProof.Rows
section
variable {P : Program} {w : World} {K : PySem.W.Frag} {mg : Str → Option Value} {base : Heap} {f : Addr} {fd : FuncData}
theorem scLinesOf : FnScope ["_law_above", "_law_cells", "_law_lines", "_law_k", "_law_pair", "_law_cell"] ["_law_above", "_law_cells"] (defScope sLinesOf) := ⟨rfl, rfl, rfl, by decide +kernel, rfl, by decide +kernel, by decide +kernel⟩
theorem ok_linesOf (F : Fun K "_law_lines_of" "_law_lines_of" sLinesOf f fd) (ml : mg "len" = none) (mr : mg "range" = none) : FnOk P w K mg base CX0 1 f fd ["_law_above", "_law_cells"] spLinesOf := by
  refine F.ok scLinesOf (fun vs H Q E h => ?_) (fun cdv A outer s H vs Q E hr h => ?_)
  · obtain ⟨a, b, ab, ns, rfl, _⟩ := h
    rfl
  obtain ⟨a, b, ab, ns, rfl, ha, hb, U, hn, hns, q⟩ := h
  refine ⟨_, pss_cons (ps_set (i := 2) scLinesOf.nd rfl (Or.inl rfl) (pe_lst pa_nil))
    (pss_cons (ps_for PassesOwn.never rfl (pi_range2 rfl mr (pa_cons pe_int (pa_cons (pe_callB call_len_seq rfl ml PySem.boot_len (pa_cons (pv 0) pa_nil)) pa_nil))) (pg_name (i := 3) scLinesOf.nd rfl (Or.inl rfl))
      (pss_cons (ps_set (i := 4) scLinesOf.nd rfl (Or.inl rfl) (pe_tup (pa_cons (pv 3) (pa_cons (pe_ix ix_list (pv 0) (pv 3) (fun _ _ => rfl)) pa_nil))))
      (pss_cons (ps_set (i := 5) scLinesOf.nd rfl (Or.inl rfl) (pv 3))
      (pss_cons (ps_if (pt_cmpR op_lt (pv 3) (pe_callB call_len_seq rfl ml PySem.boot_len (pa_cons (pv 1) pa_nil)) (nomark _)) (pss_one (ps_set (i := 5) scLinesOf.nd rfl (Or.inl rfl) (pe_ix ix_list (pv 1) (pv 3) (fun _ _ => rfl)))) pss_nil)
      (pss_cons (ps_if (pt_cmpR op_eq (pe_op op_mod (pe_op op_fdiv (pv 5) pe_int) pe_int) pe_int (nomark _)) (pss_one (ps_set (i := 4) scLinesOf.nd rfl (Or.inl rfl) (pe_tup (pa_cons (pe_ix ix_list (pv 0) (pv 3) (fun _ _ => rfl)) (pa_cons (pv 3) pa_nil))))) pss_nil)
      (pss_one (ps_expr (pe_bm PySem.F.plainAttrs_list PySem.F.slot_list_insert PySem.F.type_list_insert mt_insert (pv 2) (pa_cons (pe_op op_mod (pe_op op_fdiv (pv 5) pe_int) (pe_op op_add (pe_callB call_len_seq rfl ml PySem.boot_len (pa_cons (pv 2) pa_nil)) pe_int)) (pa_cons (pv 4) pa_nil))))))))))
    (pss_one (ps_ret (pv 2)))), ?_⟩
  have hl : (ab.map vO).length = ab.length := List.length_map _
  have hlb : (ns.map V.int).length = ns.length := List.length_map _
  refine ⟨(by show 0 ≤ sizeLine; decide), fun L hL => ?_⟩
  have s1 : Same H (upd H L (.lst [])) := same_new hL _
  refine ⟨_, rfl, a, _, rfl, .inl (SqL.of (s1 _ _ ha)), _, _, rfl, ⟨by omega, by omega, by omega, by rw [hl]; omega⟩, ?_⟩
  rw [show ((((ab.map vO).length : Nat) : Int) - 1).toNat = ab.length - 1 by rw [hl]; omega]
  have hU := U.pos
  refine for_range (lo := 1) (n := ab.length - 1) (fun i σ H3 => (∃ o3 o4 o5, σ = [some (.ref a), some (.ref b), some (.ref L), o3, o4, o5]) ∧ Same H H3 ∧ ∃ (ps : List Addr) (ls : Ln), LinesAt H3 L ps (toL ls) ∧ (ls.map nrm).Perm ((edsTo ab (i + 1)).map nrm) ∧ ls.length = i)
    ⟨⟨_, _, _, rfl⟩, s1, [], [], ⟨upd_same, rfl, (fun j c ys h => (nomatch h)), (fun ys h => (nomatch h))⟩, (by rw [edsTo_one U.root]), rfl⟩ ?_ ?_
  · rintro i σ H3 hi ⟨⟨o3, o4, o5, rfl⟩, s3, ps, ls, G, hpm, hli⟩
    have ek : (1 : Int) + ((i : Nat) : Int) = ((i + 1 : Nat) : Int) := by omega
    rw [ek]
    have hk : i + 1 < ab.length := by omega
    obtain ⟨p, hp⟩ : ∃ p, ab[i + 1]? = some (some p) := by
      cases z : ab[i + 1] with
      | none => exact absurd (U.tree.only (i + 1) (by rw [List.getElem?_eq_getElem hk, z])) (by omega)
      | some p => exact ⟨p, by rw [List.getElem?_eq_getElem hk, z]⟩
    have hst := edsTo_step hp
    have ha3 := s3 _ _ ha
    have hb3 := s3 _ _ hb
    refine ⟨_, rfl, _, rfl, _, rfl, a, _, _, _, rfl, rfl, SqL.of ha3, at_map hp, (by show 2 ≤ sizeLine; decide), fun p1 hp1 => ?_⟩
    have s4 := same_new hp1 (.tup [V.int ((i + 1 : Nat) : Int), vO (some p)])
    have e1 : (upd H3 p1 (.tup [V.int ((i + 1 : Nat) : Int), vO (some p)])) p1 = some (.tup (vP (((i + 1 : Nat) : Int), (p : Int)))) := upd_same
    generalize upd H3 p1 (.tup [V.int ((i + 1 : Nat) : Int), vO (some p)]) = H4 at s4 e1
    refine ⟨_, rfl, ?_⟩
    refine ⟨_, rfl, _, rfl, b, _, rfl, .inl (SqL.of (s4 _ _ hb3)), _, _, rfl, rfl, _, rfl, ?_⟩
    refine ite2 (fun c => ?_) (fun c => ?_)
    · have c' := of_decide_eq_true c
      rw [hlb] at c'
      have hx : ns[i + 1]? = some ns[i + 1] := List.getElem?_eq_getElem (by omega)
      refine ⟨_, rfl, _, rfl, b, _, _, _, rfl, rfl, SqL.of (s4 _ _ hb3), at_map hx, ?_⟩
      generalize ns[i + 1] = cv
      refine ⟨_, rfl, _, _, rfl, rfl, ⟨by decide, by decide⟩, _, _, rfl, rfl, (by show (0 : Int) < 2; decide), rfl, _, rfl, ?_⟩
      refine ite2 (fun c2 => ?_) (fun c2 => ?_)
      · refine ⟨_, rfl, _, rfl, a, _, _, _, rfl, rfl, SqL.of (s4 _ _ ha3), at_map hp, _, rfl, (by show 2 ≤ sizeLine; decide), fun p2 hp2 => ?_⟩
        have s5 := s4.trans (same_new hp2 (.tup [vO (some p), V.int ((i + 1 : Nat) : Int)]))
        have e2 : (upd H4 p2 (.tup [vO (some p), V.int ((i + 1 : Nat) : Int)])) p2 = some (.tup (vP ((p : Int), ((i + 1 : Nat) : Int)))) := upd_same
        have G5 := G.up s5
        have hlL : (ps.map V.ref).length = ls.length := by rw [List.length_map, G.len, List.length_map, toL_len]
        refine ⟨_, rfl, .inl ⟨rfl, _, SqL.of G5.top⟩, _, rfl, _, _, rfl, rfl, ⟨by decide, by decide⟩, _, rfl, L, _, rfl, .inl (SqL.of G5.top), _, _, rfl, rfl, _, _, rfl, rfl, ?_, _, rfl, L, _, _, _, rfl, rfl, G5.top, ?_, ?_, smallt (by rw [hlL]; omega), ?_⟩
        · show (0 : Int) < (((ps.map V.ref).length : Nat) : Int) + 1
          omega
        · exact Int.emod_nonneg _ (by omega)
        · exact Int.le_of_lt_add_one (Int.emod_lt_of_pos _ (by omega))
        refine ⟨⟨_, _, _, rfl⟩, same_upd (s3.trans s5) hL _, _, _, lines_ins G5 (p, i + 1) e2 _ ?_, ?_, ?_⟩
        · have h1 := Int.emod_lt_of_pos ((cv / 5)) (show (0 : Int) < (((ps.map V.ref).length : Nat) : Int) + 1 by omega)
          have h2 := Int.emod_nonneg ((cv / 5)) (show (((ps.map V.ref).length : Nat) : Int) + 1 ≠ 0 by omega)
          rw [hlL] at h1 h2
          show ((cv / 5) % ((((ps.map V.ref).length : Nat) : Int) + 1)).toNat ≤ ls.length
          rw [hlL]
          omega
        · refine ((perm_ins2 ls (p, i + 1) _).map nrm).trans ?_
          rw [hst, List.map_append, List.map_append]
          refine List.Perm.append hpm ?_
          show [nrm (p, i + 1)].Perm [nrm (i + 1, p)]
          rw [nrm_flip]
        · rw [(perm_ins2 ls (p, i + 1) _).length_eq, List.length_append, hli]
          rfl
      · skip
        have G5 := G.up s4
        have hlL : (ps.map V.ref).length = ls.length := by rw [List.length_map, G.len, List.length_map, toL_len]
        refine ⟨_, rfl, .inl ⟨rfl, _, SqL.of G5.top⟩, _, rfl, _, _, rfl, rfl, ⟨by decide, by decide⟩, _, rfl, L, _, rfl, .inl (SqL.of G5.top), _, _, rfl, rfl, _, _, rfl, rfl, ?_, _, rfl, L, _, _, _, rfl, rfl, G5.top, ?_, ?_, smallt (by rw [hlL]; omega), ?_⟩
        · show (0 : Int) < (((ps.map V.ref).length : Nat) : Int) + 1
          omega
        · exact Int.emod_nonneg _ (by omega)
        · exact Int.le_of_lt_add_one (Int.emod_lt_of_pos _ (by omega))
        refine ⟨⟨_, _, _, rfl⟩, same_upd (s3.trans s4) hL _, _, _, lines_ins G5 (i + 1, p) e1 _ ?_, ?_, ?_⟩
        · have h1 := Int.emod_lt_of_pos ((cv / 5)) (show (0 : Int) < (((ps.map V.ref).length : Nat) : Int) + 1 by omega)
          have h2 := Int.emod_nonneg ((cv / 5)) (show (((ps.map V.ref).length : Nat) : Int) + 1 ≠ 0 by omega)
          rw [hlL] at h1 h2
          show ((cv / 5) % ((((ps.map V.ref).length : Nat) : Int) + 1)).toNat ≤ ls.length
          rw [hlL]
          omega
        · refine ((perm_ins2 ls (i + 1, p) _).map nrm).trans ?_
          rw [hst, List.map_append, List.map_append]
          refine List.Perm.append hpm ?_
          show [nrm (i + 1, p)].Perm [nrm (i + 1, p)]
          exact .refl _
        · rw [(perm_ins2 ls (i + 1, p) _).length_eq, List.length_append, hli]
          rfl
    · obtain ⟨cv, hcv⟩ : ∃ cv : Int, cv = ((i + 1 : Nat) : Int) := ⟨_, rfl⟩
      refine ⟨_, rfl, _, _, rfl, rfl, ⟨by decide, by decide⟩, _, _, rfl, rfl, (by show (0 : Int) < 2; decide), rfl, _, rfl, ?_⟩
      refine ite2 (fun c2 => ?_) (fun c2 => ?_)
      · refine ⟨_, rfl, _, rfl, a, _, _, _, rfl, rfl, SqL.of (s4 _ _ ha3), at_map hp, _, rfl, (by show 2 ≤ sizeLine; decide), fun p2 hp2 => ?_⟩
        have s5 := s4.trans (same_new hp2 (.tup [vO (some p), V.int ((i + 1 : Nat) : Int)]))
        have e2 : (upd H4 p2 (.tup [vO (some p), V.int ((i + 1 : Nat) : Int)])) p2 = some (.tup (vP ((p : Int), ((i + 1 : Nat) : Int)))) := upd_same
        have G5 := G.up s5
        have hlL : (ps.map V.ref).length = ls.length := by rw [List.length_map, G.len, List.length_map, toL_len]
        refine ⟨_, rfl, .inl ⟨rfl, _, SqL.of G5.top⟩, _, rfl, _, _, rfl, rfl, ⟨by decide, by decide⟩, _, rfl, L, _, rfl, .inl (SqL.of G5.top), _, _, rfl, rfl, _, _, rfl, rfl, ?_, _, rfl, L, _, _, _, rfl, rfl, G5.top, ?_, ?_, smallt (by rw [hlL]; omega), ?_⟩
        · show (0 : Int) < (((ps.map V.ref).length : Nat) : Int) + 1
          omega
        · exact Int.emod_nonneg _ (by omega)
        · exact Int.le_of_lt_add_one (Int.emod_lt_of_pos _ (by omega))
        refine ⟨⟨_, _, _, rfl⟩, same_upd (s3.trans s5) hL _, _, _, lines_ins G5 (p, i + 1) e2 _ ?_, ?_, ?_⟩
        · have h1 := Int.emod_lt_of_pos ((((i + 1 : Nat) : Int) / 5)) (show (0 : Int) < (((ps.map V.ref).length : Nat) : Int) + 1 by omega)
          have h2 := Int.emod_nonneg ((((i + 1 : Nat) : Int) / 5)) (show (((ps.map V.ref).length : Nat) : Int) + 1 ≠ 0 by omega)
          rw [hlL] at h1 h2
          show ((((i + 1 : Nat) : Int) / 5) % ((((ps.map V.ref).length : Nat) : Int) + 1)).toNat ≤ ls.length
          rw [hlL]
          omega
        · refine ((perm_ins2 ls (p, i + 1) _).map nrm).trans ?_
          rw [hst, List.map_append, List.map_append]
          refine List.Perm.append hpm ?_
          show [nrm (p, i + 1)].Perm [nrm (i + 1, p)]
          rw [nrm_flip]
        · rw [(perm_ins2 ls (p, i + 1) _).length_eq, List.length_append, hli]
          rfl
      · skip
        have G5 := G.up s4
        have hlL : (ps.map V.ref).length = ls.length := by rw [List.length_map, G.len, List.length_map, toL_len]
        refine ⟨_, rfl, .inl ⟨rfl, _, SqL.of G5.top⟩, _, rfl, _, _, rfl, rfl, ⟨by decide, by decide⟩, _, rfl, L, _, rfl, .inl (SqL.of G5.top), _, _, rfl, rfl, _, _, rfl, rfl, ?_, _, rfl, L, _, _, _, rfl, rfl, G5.top, ?_, ?_, smallt (by rw [hlL]; omega), ?_⟩
        · show (0 : Int) < (((ps.map V.ref).length : Nat) : Int) + 1
          omega
        · exact Int.emod_nonneg _ (by omega)
        · exact Int.le_of_lt_add_one (Int.emod_lt_of_pos _ (by omega))
        refine ⟨⟨_, _, _, rfl⟩, same_upd (s3.trans s4) hL _, _, _, lines_ins G5 (i + 1, p) e1 _ ?_, ?_, ?_⟩
        · have h1 := Int.emod_lt_of_pos ((((i + 1 : Nat) : Int) / 5)) (show (0 : Int) < (((ps.map V.ref).length : Nat) : Int) + 1 by omega)
          have h2 := Int.emod_nonneg ((((i + 1 : Nat) : Int) / 5)) (show (((ps.map V.ref).length : Nat) : Int) + 1 ≠ 0 by omega)
          rw [hlL] at h1 h2
          show ((((i + 1 : Nat) : Int) / 5) % ((((ps.map V.ref).length : Nat) : Int) + 1)).toNat ≤ ls.length
          rw [hlL]
          omega
        · refine ((perm_ins2 ls (i + 1, p) _).map nrm).trans ?_
          rw [hst, List.map_append, List.map_append]
          refine List.Perm.append hpm ?_
          show [nrm (i + 1, p)].Perm [nrm (i + 1, p)]
          exact .refl _
        · rw [(perm_ins2 ls (i + 1, p) _).length_eq, List.length_append, hli]
          rfl
  · rintro σ H3 ⟨⟨o3, o4, o5, rfl⟩, s3, ps, ls, G, hpm, hli⟩
    rw [show ab.length - 1 + 1 = ab.length by omega] at hpm
    exact ⟨_, rfl, q L ps ls H3 s3 G hpm⟩
end
end K09


set_option Elab.async false
set_option linter.all false
set_option maxRecDepth 100000
set_option maxHeartbeats 4000000
namespace K09
open PySem L2 KM KD PyProof.Rows
section
variable {P : Program} {w : World} {K : PySem.W.Frag} {mg : Str → Option Value} {base : Heap} {f : Addr} {fd : FuncData}
theorem scAnew : FnScope ["_law_lines", "_law_names"] ["_law_lines", "_law_names"] (defScope sAnew) := ⟨rfl, rfl, rfl, by decide +kernel, rfl, by decide +kernel, by decide +kernel⟩
theorem ndOON : (["_law_one", "_law_other", "_law_names"] : List Str).Nodup := by decide +kernel
theorem ok_anew (F : Fun K "_law_anew" "_law_anew" sAnew f fd) (mr : mg "reversed" = none) : FnOk P w K mg base CX0 1 f fd ["_law_lines", "_law_names"] spAnew := by
  refine F.ok scAnew (fun vs H Q E h => ?_) (fun cdv A outer s H vs Q E hr h => ?_)
  · obtain ⟨a, b, ps, ls, nm, rfl, _⟩ := h
    rfl
  obtain ⟨a, b, ps, ls, nm, rfl, G, hb, hlt, hn, q⟩ := h
  refine ⟨_, pss_one (ps_ret (pe_comp (N' := ["_law_one", "_law_other", "_law_names"]) (js := [none, none, some 1])
        (CompOk.free1 (x := "_law_names") (nms := [(".0", .local), ("_law_one", .local), ("_law_other", .local), ("_law_names", .cell)]) rfl (by decide +kernel) (by decide +kernel) rfl rfl rfl rfl (by decide +kernel) (by
            intro j i h
            match j, h with
            | 0, h => cases h
            | 1, h => cases h
            | 2, h => cases h; exact ⟨rfl, rfl⟩) rfl (Or.inl rfl)) rfl
        (pi_rev rfl mr (pa_cons (pv 0) pa_nil)) (fun _ _ _ _ => pg_tupC (n := 2) rfl (pgs_cons (pg_name (i := 0) ndOON rfl (Or.inl rfl)) (pgs_cons (pg_name (i := 1) ndOON rfl (Or.inl rfl)) pgs_nil))) (fun _ _ _ _ => pif_nil)
        (fun _ _ _ _ => pe_tup (pa_cons (pe_ix ix_listC (pv 2) (pv 1) (fun _ _ => rfl)) (pa_cons (pe_ix ix_listC (pv 2) (pv 0) (fun _ _ => rfl)) pa_nil))))), ?_⟩
  have hpl : ps.length = ls.length := by rw [G.len, List.length_map, toL_len]
  have hl : (ps.map V.ref).length = ls.length := by rw [List.length_map, hpl]
  refine ⟨_, rfl, a, _, rfl, SqL.of G.top, ?_⟩
  refine comp_revF (K := K) (a := a) (xs := ps.map V.ref) (fun D i ys τ H3 => (∃ o1 o2, τ = [o1, o2, some (.ref b)]) ∧ Same H H3 ∧ H D = none ∧ ∃ ps' : List Addr, ys = ps'.map V.ref ∧ LinesAt H3 D ps' (toL ((anewL ls nm).take i)))
    (fun D hD => ⟨⟨_, _, rfl⟩, same_new hD _, hD, [], rfl, ⟨upd_same, rfl, (fun j c ys h => (nomatch h)), (fun ys h => (nomatch h))⟩⟩) (fun D i ys τ H3 _ ⟨_, s3, _⟩ => SqL.of (s3 _ _ G.top)) ?_ ?_
  · rintro D i x ys τ H3 hi hx ⟨⟨o1, o2, rfl⟩, s3, hD, ps', rfl, G3⟩
    obtain ⟨c, hc, rfl⟩ := of_map hx
    have hi' := hi
    rw [hl] at hi' hc
    have hjl : ls.length - 1 - i < (toL ls).length := by rw [toL_len]; omega
    obtain ⟨c', hc', ec⟩ := LinesAt.at (G.up s3) hjl
    rw [hc] at hc'
    cases hc'
    have hpi : ls[ls.length - 1 - i]? = some ls[ls.length - 1 - i] := List.getElem?_eq_getElem (by omega)
    have hpe : (toL ls)[ls.length - 1 - i] = (((ls[ls.length - 1 - i]).1 : Int), ((ls[ls.length - 1 - i]).2 : Int)) := List.getElem_map _
    rw [hpe] at ec
    have hlt' := hlt _ (List.mem_of_getElem? hpi)
    have hnx : (anewL ls nm)[i]? = some (nm.getD (ls[ls.length - 1 - i]).2 0, nm.getD (ls[ls.length - 1 - i]).1 0) := by
      unfold anewL
      rw [List.getElem?_map, List.getElem?_reverse hi', hpi]
      rfl
    generalize ls[ls.length - 1 - i] = pq at ec hlt' hnx
    obtain ⟨x1, x2⟩ := pq
    have g1 : nm[x1]? = some (nm.getD x1 0) := by rw [List.getD_eq_getElem?_getD, List.getElem?_eq_getElem hlt'.1]; rfl
    have g2 : nm[x2]? = some (nm.getD x2 0) := by rw [List.getD_eq_getElem?_getD, List.getElem?_eq_getElem hlt'.2]; rfl
    have hb3 := s3 _ _ hb
    have hps : ps'.length ≤ 100 := by
      rw [G3.len, List.length_map, toL_len, List.length_take]
      unfold anewL
      rw [List.length_map, List.length_reverse]
      omega
    refine ⟨c, _, rfl, SqT.of ec, rfl, _, _, rfl, _, _, rfl, rfl, ?_⟩
    dsimp only [tAlways]
    rw [if_pos rfl]
    refine ⟨_, rfl, _, rfl, b, _, _, _, rfl, rfl, SqL.of hb3, at_map g2, _, rfl, _, rfl, b, _, _, _, rfl, rfl, SqL.of hb3, at_map g1, (by show 2 ≤ sizeLine; decide), fun p hp => ?_⟩
    have t1 := same_new hp (.tup [vN (nm.getD x2 0), vN (nm.getD x1 0)])
    have e1 : (upd H3 p (.tup [vN (nm.getD x2 0), vN (nm.getD x1 0)])) p = some (.tup (vP (((nm.getD x2 0 : Nat) : Int), ((nm.getD x1 0 : Nat) : Int)))) := upd_same
    have G4 := G3.up t1
    refine ⟨G4.top, smallt (by rw [List.length_map]; omega), Nx.mk hi ⟨⟨_, _, rfl⟩, same_upd (s3.trans t1) hD _, hD, ps' ++ [p], by rw [List.map_append]; rfl, ?_⟩⟩
    rw [List.take_add_one, hnx]
    exact lines_snoc G4 (nm.getD x2 0, nm.getD x1 0) e1
  · rintro D ys τ H3 ⟨_, s3, hD, ps', rfl, G3⟩
    rw [hl, List.take_of_length_le (by unfold anewL; rw [List.length_map, List.length_reverse]; exact Nat.le_refl _)] at G3
    exact q D ps' H3 s3 G3
end
end K09


set_option Elab.async false
set_option linter.all false
set_option maxRecDepth 100000
set_option maxHeartbeats 4000000
namespace K09
open PySem L2 KM KD PyProof.Rows
section
variable {P : Program} {w : World} {K : PySem.W.Frag} {mg : Str → Option Value} {base : Heap} {f : Addr} {fd : FuncData}
theorem scNearOf : FnScope ["_law_many", "_law_lines", "_law_rows", "_law_one", "_law_other"] ["_law_many", "_law_lines"] (defScope sNearOf) := ⟨rfl, rfl, rfl, by decide +kernel, rfl, by decide +kernel, by decide +kernel⟩
theorem ndLkN : (["_law_k"] : List Str).Nodup := by decide +kernel
theorem ok_nearOf (F : Fun K "_law_near_of" "_law_near_of" sNearOf f fd) (mr : mg "range" = none) : FnOk P w K mg base CX0 1 f fd ["_law_many", "_law_lines"] spNearOf := by
  refine F.ok scNearOf (fun vs H Q E h => ?_) (fun cdv A outer s H vs Q E hr h => ?_)
  · obtain ⟨L, ps, n, ls, rfl, _⟩ := h
    rfl
  obtain ⟨L, ps, n, ls, rfl, G, hlt, hn, hll, q⟩ := h
  refine ⟨_, pss_cons (ps_setComp (N' := ["_law_k"]) (js := [none]) (i := 2) scNearOf.nd rfl (Or.inl rfl) (CompOk.plain rfl (by decide +kernel) (by decide +kernel) rfl (by decide)) rfl
        (pi_range1 rfl mr (pa_cons (pv 0) pa_nil)) (fun _ _ _ _ => pg_name (i := 0) ndLkN rfl (Or.inl rfl)) (fun _ _ _ _ => pif_nil) (fun _ _ _ _ => pe_lst pa_nil))
    (pss_cons (ps_for PassesOwn.never rfl (pi_list (pv 1)) (pg_tup rfl (pgs_cons (pg_name (i := 3) scNearOf.nd rfl (Or.inl rfl)) (pgs_cons (pg_name (i := 4) scNearOf.nd rfl (Or.inl rfl)) pgs_nil)))
      (pss_cons (ps_expr (pe_bm PySem.F.plainAttrs_list PySem.F.slot_list_append PySem.F.type_list_append mt_append (pe_ix ix_list (pv 2) (pv 3) (fun _ _ => rfl)) (pa_cons (pv 4) pa_nil)))
      (pss_one (ps_expr (pe_bm PySem.F.plainAttrs_list PySem.F.slot_list_append PySem.F.type_list_append mt_append (pe_ix ix_list (pv 2) (pv 4) (fun _ _ => rfl)) (pa_cons (pv 3) pa_nil))))))
    (pss_one (ps_ret (pv 2)))), ?_⟩
  have hpl : ps.length = ls.length := by rw [G.len, List.length_map, toL_len]
  have hl : (ps.map V.ref).length = ls.length := by rw [List.length_map, hpl]
  refine ⟨_, rfl, _, rfl, by omega, by omega, ?_⟩
  rw [Int.toNat_natCast]
  refine comp_range (fun D i ys τ H2 => (∃ o, τ = [o]) ∧ ∃ bs : List Addr, ys = bs.map V.ref ∧ bs.length = i ∧ bs.Nodup ∧ Same H H2 ∧ H D = none ∧ H2 D = some (.lst ys) ∧ ∀ b ∈ bs, H b = none ∧ H2 b = some (.lst []) ∧ b ≠ D)
    (fun D hD => ⟨⟨_, rfl⟩, [], rfl, rfl, List.nodup_nil, same_new hD _, hD, upd_same, fun b hb => (nomatch hb)⟩) ?_ ?_
  · rintro D i ys τ H2 hi ⟨⟨o, rfl⟩, bs, rfl, hbi, nd, s2, hD, e2, each⟩
    dsimp only [gName, tAlways]
    rw [if_pos rfl]
    refine ⟨(by show 0 ≤ sizeLine; decide), fun p hp => ?_⟩
    have hpD : D ≠ p := ne_of_none e2 hp
    refine ⟨by rw [upd_ne hpD]; exact e2, smallt (by rw [List.length_map]; omega), Nx.mk hi ⟨⟨_, rfl⟩, bs ++ [p], by rw [List.map_append]; rfl, by rw [List.length_append, hbi]; rfl, ?_, ?_, hD, upd_same, fun b hb => ?_⟩⟩
    · rw [List.nodup_append]
      refine ⟨nd, by simp, fun b hb b' hb' e => ?_⟩
      rw [List.mem_singleton] at hb'
      subst hb' e
      rw [(each _ hb).2.1] at hp
      cases hp
    · exact same_upd (s2.trans (same_new hp _)) hD _
    · rcases List.mem_append.mp hb with h | h
      · obtain ⟨h1, h2, h3⟩ := each b h
        exact ⟨h1, by rw [upd_ne h3, upd_ne (ne_of_none h2 hp)]; exact h2, h3⟩
      · rw [List.mem_singleton] at h
        subst h
        exact ⟨s2.free hp, by rw [upd_ne (Ne.symm hpD), upd_same], Ne.symm hpD⟩
  rintro D ys τ H2 ⟨_, bs, rfl, hbl, nd, s2, hD, e2, each⟩
  have B0 : LsAt H H2 D bs (near (ls.take 0)) := ⟨s2, e2, nd, fun b hb => (each b hb).1, hD, fun k b h => (each b (List.mem_of_getElem? h)).2.1⟩
  have hbm : (bs.map V.ref).length = n := by rw [List.length_map, hbl]
  refine ⟨_, rfl, L, rfl, ⟨_, SqL.of (s2 _ _ G.top)⟩, for_list (K := K) (a := L) (xs := ps.map V.ref) (fun i σ H3 => (∃ o3 o4, σ = [some (vN n), some (.ref L), some (.ref D), o3, o4]) ∧ LsAt H H3 D bs (near (ls.take i)))
    ⟨⟨_, _, rfl⟩, B0⟩ (fun i σ H3 _ ⟨_, B⟩ => SqL.of (B.same _ _ G.top)) ?_ ?_⟩
  · rintro i x σ H3 hx ⟨⟨o3, o4, rfl⟩, B⟩
    obtain ⟨d, hd, rfl⟩ := of_map hx
    have hil : i < ls.length := by rw [← hpl]; exact (List.getElem?_eq_some_iff.mp hd).1
    obtain ⟨d', hd', ed⟩ := LinesAt.at (G.up B.same) (show i < (toL ls).length by rw [toL_len]; exact hil)
    rw [hd] at hd'
    cases hd'
    have hpi : ls[i]? = some ls[i] := List.getElem?_eq_getElem hil
    have hpe : (toL ls)[i]'(by rw [toL_len]; exact hil) = (((ls[i]).1 : Int), ((ls[i]).2 : Int)) := List.getElem_map _
    rw [hpe] at ed
    have hlt' := hlt _ (List.mem_of_getElem? hpi)
    have htk : ls.take (i + 1) = ls.take i ++ [ls[i]] := by rw [List.take_add_one, hpi]; rfl
    generalize ls[i] = pq at ed hlt' htk
    obtain ⟨x1, x2⟩ := pq
    have hb1 : x1 < bs.length := by rw [hbl]; exact hlt'.1
    have hb2 : x2 < bs.length := by rw [hbl]; exact hlt'.2
    have hc1 := List.getElem?_eq_getElem hb1
    have hc2 := List.getElem?_eq_getElem hb2
    have ec1 := B.each x1 _ hc1
    have hnl : ∀ k, (near (ls.take i) k).length ≤ 1000 := fun k => by
      refine Nat.le_trans (near_len _ k) ?_
      rw [List.length_take]
      omega
    refine ⟨d, _, rfl, SqT.of ed, rfl, _, _, rfl, _, _, rfl, rfl, ?_⟩
    refine ⟨_, rfl, _, rfl, D, _, _, _, rfl, rfl, SqL.of B.top, at_map hc1, .inl ⟨rfl, _, SqL.of ec1⟩, _, rfl, bs[x1], _, _, rfl, rfl, ec1, smallt (by rw [List.length_map]; exact Nat.le_trans (hnl x1) (by decide)), ?_⟩
    have B1 := B.push (x := x2) hc1
    have ec2 := B1.each x2 _ hc2
    refine ⟨_, rfl, _, rfl, D, _, _, _, rfl, rfl, SqL.of B1.top, at_map hc2, .inl ⟨rfl, _, SqL.of ec2⟩, _, rfl, bs[x2], _, _, rfl, rfl, ec2, ?_, ?_⟩
    · refine smallt ?_
      rw [List.length_map]
      have := hnl x2
      split
      · rw [List.length_append, List.length_singleton]; omega
      · omega
    have B2 := B1.push (x := x1) hc2
    refine ⟨⟨_, _, rfl⟩, ?_⟩
    have hfun : near (ls.take (i + 1)) = fun j => if j = x2 then (if j = x1 then near (ls.take i) j ++ [x2] else near (ls.take i) j) ++ [x1] else (if j = x1 then near (ls.take i) j ++ [x2] else near (ls.take i) j) := by
      funext j
      rw [htk]
      exact near_two _ x1 x2 j
    rw [hfun]
    exact B2
  · rintro σ H3 ⟨⟨o3, o4, rfl⟩, B⟩
    rw [hl, List.take_length] at B
    exact ⟨_, rfl, q D bs H3 B.same ⟨B.top, hbl, B.each⟩⟩
end
end K09


set_option Elab.async false
set_option linter.all false
set_option maxRecDepth 100000
set_option maxHeartbeats 4000000
namespace K09
open PySem L2 KM KD PyProof.Rows
section
variable {P : Program} {w : World} {K : PySem.W.Frag} {mg : Str → Option Value} {base : Heap} {f : Addr} {fd : FuncData}
theorem scBranch : FnScope ["_law_near", "_law_knot", "_law_back", "_law_rest", "_law_inner"] ["_law_near", "_law_knot", "_law_back"] (defScope sBranch) := ⟨rfl, rfl, rfl, by decide +kernel, rfl, by decide +kernel, by decide +kernel⟩
theorem ndOB : (["_law_one", "_law_back"] : List Str).Nodup := by decide +kernel
theorem ndONK : (["_law_one", "_law_near", "_law_knot"] : List Str).Nodup := by decide +kernel
theorem ok_branch {n : Nat} (F : Fun K "_law_branch" "_law_branch" sBranch f fd) (G : Kit P w K mg base n "_law_branch" ["_law_near", "_law_knot", "_law_back"] (spBranch n) f fd) (ms : mg "sorted" = none) :
    FnOk P w K mg base CX0 (n + 1) f fd ["_law_near", "_law_knot", "_law_back"] (spBranch (n + 1)) := by
  refine F.ok scBranch (fun vs H Q E h => ?_) (fun cdv A outer s H vs Q E hr h => ?_)
  · obtain ⟨b, bs, ls, ab, r, v, rk, bk, rfl, _⟩ := h
    rfl
  obtain ⟨b, bs, ls, ab, r, v, rk, bk, rfl, B, T, fo, hv, hn, hc, hbk, q⟩ := h
  refine ⟨_, pss_cons (ps_setComp (N' := ["_law_one", "_law_back"]) (js := [none, some 2]) (i := 3) scBranch.nd rfl (Or.inl rfl)
        (CompOk.free1 (x := "_law_back") (nms := [(".0", .local), ("_law_one", .local), ("_law_back", .cell)]) rfl (by decide +kernel) (by decide +kernel) rfl rfl rfl rfl (by decide +kernel) (by
            intro j i h
            match j, h with
            | 0, h => cases h
            | 1, h => cases h; exact ⟨rfl, rfl⟩) rfl (Or.inl rfl)) rfl
        (pi_list (pe_ix ix_list (pv 0) (pv 1) (fun _ _ => rfl))) (fun _ _ _ _ => pg_name (i := 0) ndOB rfl (Or.inl rfl)) (fun _ _ _ _ => pif_one (pt_cmpR op_ne (pv 0) (pv 1) (nomark _))) (fun _ _ _ _ => pv 0))
    (pss_cons (ps_setComp (N' := ["_law_one", "_law_near", "_law_knot"]) (js := [none, some 0, some 1]) (i := 4) scBranch.nd rfl (Or.inl rfl)
        (CompOk.free2 (x := "_law_near") (y := "_law_knot") (nms := [(".0", .local), ("_law_one", .local), ("_law_branch", .globalImplicit), ("_law_knot", .cell), ("_law_near", .cell)]) rfl (by decide +kernel) (by decide +kernel) rfl rfl rfl rfl rfl (by decide +kernel) (by
            intro j i h
            match j, h with
            | 0, h => cases h
            | 1, h => cases h; exact .inl ⟨rfl, rfl⟩
            | 2, h => cases h; exact .inr ⟨rfl, rfl⟩) rfl rfl (Or.inl rfl) (Or.inl rfl)) rfl
        (pi_list (pv 3)) (fun _ _ _ _ => pg_name (i := 0) ndONK rfl (Or.inl rfl)) (fun _ _ _ _ => pif_nil) (fun _ _ _ _ => pe_call G.ok hr rfl G.mg G.kp G.bd .nil pass0 (pa_cons (pv 1) (pa_cons (pv 0) (pa_cons (pv 2) pa_nil)))))
    (pss_one (ps_ret (pe_op op_add_str (pe_op op_add_str pe_str (pe_bm PySem.F.plainAttrs_str PySem.F.slot_str_join PySem.F.type_str_join mt_join pe_str
      (pa_cons (pe_callB call_sortedS rfl ms boot_sorted (pa_cons (pv 4) pa_nil)) pa_nil))) pe_str)))), ?_⟩
  have hvb : v < bs.length := by rw [B.len]; exact hv
  have hcv : bs[v]? = some bs[v] := List.getElem?_eq_getElem hvb
  have ecv := B.each v _ hcv
  generalize bs[v] = cb at hcv ecv
  obtain ⟨p, hp⟩ : ∃ p : Nat → Bool, p = fun c : Nat => decide (V.int (c : Int) ≠ V.int bk) := ⟨_, rfl⟩
  have hpt : ∀ c : Nat, p c = true ↔ ab[v]? ≠ some (some c) := fun c => by
    rw [hp, ← hbk c]
    constructor
    · intro z y
      exact of_decide_eq_true z (by rw [y])
    · intro z
      exact decide_eq_true fun y => z (V.int.inj y)
  have hpm := rest_kids T fo hv p hpt
  have hkl := kids_len ab v
  have hrl : ((near ls v).filter p).length ≤ 64 := by rw [hpm.length_eq]; omega
  have hnl : (near ls v).length ≤ 200 := by
    rw [(fo.near hv).length_eq, List.length_append]
    have : (par ab v).length ≤ 1 := by
      unfold par
      split
      · exact Nat.le_refl _
      · exact Nat.zero_le _
    omega
  refine ⟨_, rfl, _, rfl, b, _, _, _, rfl, rfl, SqL.of B.top, at_map hcv, cb, rfl, ⟨_, SqL.of ecv⟩, ?_⟩
  refine comp_listF (K := K) (a := cb) (xs := (near ls v).map vN) (fun D i ys τ H3 => (∃ o, τ = [o, some (.int bk)]) ∧ ys = (((near ls v).take i).filter p).map vN ∧ Same H H3 ∧ H D = none ∧ H3 D = some (.lst ys))
    (fun D hD => ⟨⟨_, rfl⟩, rfl, same_new hD _, hD, upd_same⟩) (fun D i ys τ H3 _ ⟨_, _, s3, _⟩ => SqL.of (s3 _ _ ecv)) ?_ ?_
  · rintro D i x ys τ H3 hx ⟨⟨o, rfl⟩, rfl, s3, hD, e3⟩
    have hx' := (List.getElem?_eq_some_iff.mp hx).1
    obtain ⟨c, hci, rfl⟩ := of_map hx
    have htk : (near ls v).take (i + 1) = (near ls v).take i ++ [c] := by rw [List.take_add_one, hci]; rfl
    have hfl : (((near ls v).take i).filter p).length ≤ 200 := by
      refine Nat.le_trans (List.length_filter_le _ _) ?_
      rw [List.length_take]
      omega
    dsimp only [gName]
    have hpc : p c = (!decide (vN c = V.int bk)) := by
      rw [hp]
      show decide (¬ V.int (c : Int) = V.int bk) = _
      rw [decide_not]
      rfl
    refine ⟨_, rfl, _, rfl, rfl, p c, by rw [hpc], ?_⟩
    cases hpb : p c with
    | true =>
      rw [if_pos rfl]
      refine ⟨_, rfl, e3, smallt (by rw [List.length_map]; omega), Nx.mk hx' ⟨⟨_, rfl⟩, ?_, same_upd s3 hD _, hD, upd_same⟩⟩
      rw [htk, List.filter_append, List.filter_cons_of_pos hpb, List.map_append]
      rfl
    | false =>
      rw [if_neg Bool.false_ne_true]
      refine Nx.mk hx' ⟨⟨_, rfl⟩, ?_, s3, hD, e3⟩
      rw [htk, List.filter_append, List.filter_cons_of_neg (by rw [hpb]; exact Bool.false_ne_true), List.filter_nil, List.append_nil]
  rintro D ys τ H3 ⟨_, rfl, s3, hD, e3⟩
  rw [List.length_map, List.take_length] at e3
  generalize hrest : (near ls v).filter p = rest at e3 hpm hrl
  clear hrest
  have hks : ∀ c ∈ rest, ab[c]? = some (some v) := fun c hc => mem_kids.mp (hpm.mem_iff.mp hc)
  refine ⟨_, rfl, D, rfl, ⟨_, SqL.of e3⟩, ?_⟩
  refine comp_listF (K := K) (a := D) (xs := rest.map vN) (fun D2 i ys τ H4 => (∃ o, τ = [o, some (.ref b), some (vN v)]) ∧ ys = ((rest.take i).map (fm ab)).map vT ∧ Same H3 H4 ∧ H3 D2 = none ∧ H4 D2 = some (.lst ys))
    (fun D2 hD2 => ⟨⟨_, rfl⟩, rfl, same_new hD2 _, hD2, upd_same⟩) (fun D2 i ys τ H4 _ ⟨_, _, s4, _⟩ => SqL.of (s4 _ _ e3)) ?_ ?_
  · rintro D2 i x ys τ H4 hx ⟨⟨o, rfl⟩, rfl, s4, hD2, e4⟩
    have hx' := (List.getElem?_eq_some_iff.mp hx).1
    obtain ⟨c, hci, rfl⟩ := of_map hx
    have hcv' := hks c (List.mem_of_getElem? hci)
    have hcl := (List.getElem?_eq_some_iff.mp hcv').1
    have hup := (T.up c v hcv').2
    dsimp only [gName, tAlways]
    rw [if_pos rfl]
    refine ⟨_, rfl, _, rfl, _, rfl, b, bs, ls, ab, r, c, rk, ((v : Nat) : Int), rfl, (B.up (s3.trans s4)), T, fo, hcl, hn, by omega, fun d => ?_, fun H5 s5 => ⟨s5 _ _ e4, smallt (by rw [List.length_map, List.length_map, List.length_take]; omega), Nx.mk hx' ⟨⟨_, rfl⟩, ?_, same_upd (s4.trans s5) hD2 _, hD2, upd_same⟩⟩⟩
    · rw [hcv']
      constructor
      · intro z y
        exact z (by rw [Option.some.inj (Option.some.inj y)])
      · intro z y
        exact z (by rw [show v = d by omega])
    · rw [List.take_add_one, hci, List.map_append, List.map_append]
      rfl
  rintro p2 ys τ H4 ⟨_, rfl, s4, hD2, e4⟩
  rw [List.length_map, List.take_length] at e4
  have hsum : ((rest.map (fm ab)).map (·.length)).sum ≤ 2 * 64 * 64 := by
    rw [List.map_map, (hpm.map _).sum_nat]
    have := fm_kids_len ab v
    have h2 : 2 * ab.length * ab.length ≤ 2 * 64 * 64 := Nat.mul_le_mul (Nat.mul_le_mul (Nat.le_refl _) (by omega)) (by omega)
    exact Nat.le_trans this h2
  have hfm : fm ab v = brk (srt (rest.map (fm ab))).flatten := by
    rw [T.fm_eq hv, srt_congr (hpm.map (fm ab))]
  rw [hfm] at q
  generalize hts : rest.map (fm ab) = ts at e4 hsum q
  have hts64 : ts.length ≤ 64 := by rw [← hts, List.length_map]; omega
  rw [← vT_map] at e4
  refine ⟨rfl, _, rfl, p2, ts.map mkS, rfl, SqL.of e4, by rw [List.length_map]; have := kids_len ab v; have := hpm.length_eq; rw [← hts, List.length_map]; omega, fun l ss' h1 h2 h3 => ?_⟩
  have es := sorted_is h1 h2
  subst es
  have el : (((srt ts).map mkS).map (·.length)).sum = (ts.map (·.length)).sum := by
    rw [len_vT]
    exact ((srt_perm ts).map _).sum_nat
  have ef : (mkS (srt ts).flatten).length = (ts.map (·.length)).sum := by rw [mkS_len, srt_len]
  have e0 : (Str.ofString "").length = 0 := by rw [ep]; rfl
  have e1 : (Str.ofString "(").length = 1 := by rw [lp]; rfl
  have e2 : (Str.ofString ")").length = 1 := by rw [rp]; rfl
  refine ⟨_, l, (srt ts).map mkS, rfl, rfl, SqL.of upd_same, ?_, ?_⟩
  · rw [el, e0]
    omega
  rw [join_is]
  refine ⟨_, _, rfl, rfl, ?_, _, _, rfl, rfl, ?_, ?_⟩
  · rw [ef, e1]
    exact small (by omega)
  · rw [Str.length_append, ef, e1, e2]
    exact small (by omega)
  rw [brk_is]
  exact q _ ((s3.trans s4).trans (same_new h3 _))
theorem branch_none : FnOk P w K mg base CX0 0 f fd ["_law_near", "_law_knot", "_law_back"] (spBranch 0) := by
  have no : ∀ vs H Q E, ¬ spBranch 0 vs H Q E := fun vs H Q E h => by
    obtain ⟨b, bs, ls, ab, r, v, rk, bk, _, _, T, _, hv, _, hc, _⟩ := h
    have := T.low v hv
    omega
  exact ⟨fun vs H Q E h => absurd h (no vs H Q E), fun A outer s H args us vs Q E _ _ _ _ h => absurd h (no vs H Q E)⟩
theorem branch_all (F : Fun K "_law_branch" "_law_branch" sBranch f fd) (bd : Binds K fd ["_law_near", "_law_knot", "_law_back"] []) (hm : mg "_law_branch" = some (.ref f)) (ms : mg "sorted" = none) :
    ∀ n : Nat, FnOk P w K mg base CX0 n f fd ["_law_near", "_law_knot", "_law_back"] (spBranch n)
  | 0 => branch_none
  | n + 1 => ok_branch F ⟨branch_all F bd hm ms n, bd, F.kp, hm⟩ ms
end
end K09


set_option Elab.async false
set_option linter.all false
set_option maxRecDepth 100000
set_option maxHeartbeats 4000000
namespace K09
open PySem L2 KM KD PyProof.Rows
section
variable {P : Program} {w : World} {K : PySem.W.Frag} {mg : Str → Option Value} {base : Heap} {f : Addr} {fd : FuncData}
theorem seq0 (n : Nat) : seqIndex? 0 (n + 1) = some 0 := by
  unfold seqIndex?
  simp
theorem scFarAt : FnScope ["_law_near", "_law_start", "_law_far", "_law_todo", "_law_most", "_law_knot", "_law_one"] ["_law_near", "_law_start"] (defScope sFarnessAt) := ⟨rfl, rfl, rfl, by decide +kernel, rfl, by decide +kernel, by decide +kernel⟩
theorem ok_farAt (F : Fun K "_law_farness_at" "_law_farness_at" sFarnessAt f fd) (mx : mg "max" = none) : FnOk P w K mg base CX0 1 f fd ["_law_near", "_law_start"] spFarAt := by
  refine F.ok scFarAt (fun vs H Q E h => ?_) (fun cdv A outer s H vs Q E hr h => ?_)
  · obtain ⟨b, bs, n, v, ls, rfl, _⟩ := h
    rfl
  obtain ⟨b, bs, n, v, ls, rfl, G, hF, hv, hn, q⟩ := h
  refine ⟨_, pss_cons (ps_set (i := 2) scFarAt.nd rfl (Or.inl rfl) (pe_disp (pps_cons (pv 1) pe_int pps_nil) rfl rfl (by decide) (by decide)))
    (pss_cons (ps_set (i := 3) scFarAt.nd rfl (Or.inl rfl) (pe_lst (pa_cons (pv 1) pa_nil)))
    (pss_cons (ps_set (i := 4) scFarAt.nd rfl (Or.inl rfl) pe_int)
    (pss_cons (ps_while PassesOwn.never (pt_cmpR (op_neNil hr.units0) (pv 3) (pe_lst pa_nil) (nomark _))
      (pss_cons (ps_set (i := 5) scFarAt.nd rfl (Or.inl rfl) (pe_bm PySem.F.plainAttrs_list PySem.F.slot_list_pop PySem.F.type_list_pop mt_popAt (pv 3) (pa_cons pe_int pa_nil)))
      (pss_cons (ps_set (i := 4) scFarAt.nd rfl (Or.inl rfl) (pe_callB (call_max2 rfl) rfl mx PyProof.Rows.boot_max (pa_cons (pv 4) (pa_cons (pe_dget hr.units1 (pv 2) (pv 5) (fun _ _ => rfl)) pa_nil))))
      (pss_one (ps_for PassesOwn.never rfl (pi_list (pe_ix ix_list (pv 0) (pv 5) (fun _ _ => rfl))) (pg_name (i := 6) scFarAt.nd rfl (Or.inl rfl))
        (pss_one (ps_if (pt_cmp (pc_dnotin hr.units1 (pv 6) (pv 2)))
          (pss_cons (ps_dput hr.units1 (pv 2) (pv 6) (pe_op op_add (pe_dget hr.units1 (pv 2) (pv 5) (fun _ _ => rfl)) pe_int) rfl)
          (pss_one (ps_expr (pe_bm PySem.F.plainAttrs_list PySem.F.slot_list_append PySem.F.type_list_append mt_append (pv 3) (pa_cons (pv 6) pa_nil))))) pss_nil)))))))
    (pss_one (ps_ret (pv 4)))))), ?_⟩
  have R := at_spec hF hv
  obtain ⟨hla, ⟨rk, T⟩, fo⟩ := id R
  obtain ⟨dp, hdp⟩ := dep_fn T
  rw [hla] at hdp
  have hlt : ∀ p ∈ ls, p.1 < n ∧ p.2 < n := fun p hp => hF.lt hp
  have hdv : dp v = 0 := dep_root T (hdp v hv)
  intro d hd
  refine ⟨_, rfl, upd_same, [(.inl (v : Int), .int 0)], rfl, (by show 1 ≤ 15; decide), ?_⟩
  have ekv : mergeK [] [((.inl (v : Int) : Key), V.int 0)] = kvW [v] (fun k => some (dp k)) := by
    show [((.inl (v : Int) : Key), V.int 0)] = [((.inl (v : Int) : Key), vO (some (dp v)))]
    rw [hdv]
    rfl
  rw [ekv]
  have s1 : Same H (upd (upd H d (.dK [])) d (.dK (kvW [v] fun k => some (dp k)))) := same_upd (same_new hd _) hd _
  have ed : (upd (upd H d (.dK [])) d (.dK (kvW [v] fun k => some (dp k)))) d = some (.dK (kvW [v] fun k => some (dp k))) := upd_same
  generalize upd (upd H d (.dK [])) d (.dK (kvW [v] fun k => some (dp k))) = H1 at s1 ed
  refine ⟨_, rfl, (by show 1 ≤ sizeLine; decide), fun o ho => ?_⟩
  have ho0 : H o = none := s1.free ho
  have hod : d ≠ o := ne_of_none ed ho
  refine while_m (fun m σ H2 => ∃ (ord : List Nat) (pa : Nat → Option Nat) (pl ms : Nat) (o5 o6 : Option V), m = n - pl ∧ σ = [some (.ref b), some (vN v), some (.ref d), some (.ref o), some (vN ms), o5, o6] ∧ Same H H2 ∧ H2 d = some (.dK (kvW ord fun k => some (dp k))) ∧ H2 o = some (.lst ((ord.drop pl).map vN)) ∧ GB ls n v ord pa pl ∧ (∀ k ∈ ord.take pl, dp k ≤ ms) ∧ (ms = 0 ∨ ∃ k ∈ ord.take pl, dp k = ms))
    n ⟨[v], _, 0, 0, _, _, rfl, rfl, s1.trans (same_new ho _), by rw [upd_ne hod]; exact ed, upd_same, gb0 hv, fun k hk => (nomatch hk), .inl rfl⟩ ?_ ?_
  · rintro m σ H2 ⟨ord, pa, pl, ms, o5, o6, rfl, rfl, s2, e2, e3, B, hms, hme⟩
    refine ⟨_, rfl, (by show 0 ≤ sizeLine; decide), fun z hz => ?_⟩
    have s3 := s2.trans (same_new hz (.lst []))
    have e23 := same_new hz (.lst []) _ _ e2
    have e33 := same_new hz (.lst []) _ _ e3
    refine ⟨o, z, _, rfl, rfl, SqL.of e33, SqL.of upd_same, ?_⟩
    generalize upd H2 z (.lst []) = H3 at s3 e23 e33
    have hle := B.le
    by_cases hpl : pl = ord.length
    · subst hpl
      rw [List.drop_length] at e33 ⊢
      have hw : ord.length = n := by rw [← hla] at B ⊢; exact B.whole T fo
      refine ⟨false, rfl, iteF ⟨_, rfl, ?_⟩⟩
      rw [List.take_length] at hms hme
      have pm := nodup_full B.nd B.lt hw
      have hin : ∀ k, k ∈ ord ↔ k < n := fun k => by rw [pm.mem_iff, List.mem_range]
      have E : Ecc n ls v ms := ecc_of R (fun k e hk he => by
        rw [he.det (hdp k hk)]
        exact hms k ((hin k).mpr hk)) (by
        rcases hme with z | ⟨k, hk, e⟩
        · exact ⟨v, hv, by rw [z, ← hdv]; exact hdp v hv⟩
        · exact ⟨k, (hin k).mp hk, by rw [← e]; exact hdp k ((hin k).mp hk)⟩)
      rw [← ecc_eq hF hv E]
      exact q _ s3
    · have hpl' : pl < ord.length := by omega
      have hk : ord[pl]? = some ord[pl] := List.getElem?_eq_getElem hpl'
      have hdr : ord.drop pl = ord[pl] :: ord.drop (pl + 1) := List.drop_eq_getElem_cons hpl'
      generalize ord[pl] = k at hk hdr
      rw [hdr, List.map_cons] at e33 ⊢
      have hkm : k ∈ ord := List.mem_of_getElem? hk
      have hkl : k < n := B.lt _ hkm
      have hkb : k < bs.length := by rw [G.len]; exact hkl
      have hc : bs[k]? = some bs[k] := List.getElem?_eq_getElem hkb
      have ec := G.each k _ hc
      generalize bs[k] = cb at hc ec
      refine ⟨true, rfl, iteT ⟨_, rfl, .inl ⟨rfl, _, SqL.of e33⟩, o, _, _, 0, _, rfl, rfl, e33, by decide, by decide, seq0 _, rfl, ?_⟩⟩
      have s4 : Same H (upd H3 o (.lst ((ord.drop (pl + 1)).map vN))) := same_upd s3 ho0 _
      have e24 : (upd H3 o (.lst ((ord.drop (pl + 1)).map vN))) d = some (.dK (kvW ord fun k => some (dp k))) := by rw [upd_ne hod]; exact e23
      have e34 : (upd H3 o (.lst ((ord.drop (pl + 1)).map vN))) o = some (.lst ((ord.drop (pl + 1)).map vN)) := upd_same
      rw [show (vN k :: (ord.drop (pl + 1)).map vN).eraseIdx 0 = (ord.drop (pl + 1)).map vN from rfl]
      generalize upd H3 o (.lst ((ord.drop (pl + 1)).map vN)) = H4 at s4 e24 e34
      have gk : DGet H4 d (V.int (k : Int)) (some (vO (some (dp k)))) := .inl ⟨_, .inl (k : Int), .inl e24, rfl, (kvW_some (pa := fun k => some (dp k)) hkm).symm⟩
      refine ⟨_, rfl, _, rfl, _, rfl, d, _, rfl, gk, _, _, rfl, ?_⟩
      obtain ⟨ms', hms'⟩ : ∃ ms' : Nat, ms' = if dp k > ms then dp k else ms := ⟨_, rfl⟩
      have emx : (if ((dp k : Nat) : Int) > ((ms : Nat) : Int) then ((dp k : Nat) : Int) else ((ms : Nat) : Int)) = ((ms' : Nat) : Int) := by
        rw [hms']
        by_cases c : dp k > ms
        · rw [if_pos c, if_pos (by omega)]
        · rw [if_neg c, if_neg (by omega)]
      change gName 4 (V.int (if ((dp k : Nat) : Int) > ((ms : Nat) : Int) then ((dp k : Nat) : Int) else ((ms : Nat) : Int))) _ _ _
      rw [emx]
      refine ⟨_, rfl, _, rfl, b, _, _, _, rfl, rfl, SqL.of (s4 _ _ G.top), at_map hc, cb, rfl, ⟨_, SqL.of (s4 _ _ ec)⟩, for_list (K := K) (a := cb) (xs := (near ls k).map vN)
        (fun i σ H5 => ∃ (ord' : List Nat) (pa : Nat → Option Nat) (o6 : Option V), σ = [some (.ref b), some (vN v), some (.ref d), some (.ref o), some (vN ms'), some (vN k), o6] ∧ Same H H5 ∧ H5 d = some (.dK (kvW ord' fun k => some (dp k))) ∧ H5 o = some (.lst ((ord'.drop (pl + 1)).map vN)) ∧ GB ls n v ord' pa pl ∧ ord'[pl]? = some k ∧ ord'.take pl = ord.take pl ∧ ∀ c ∈ (near ls k).take i, c ∈ ord')
        ⟨ord, pa, _, rfl, s4, e24, e34, B, hk, rfl, fun c hc => (nomatch hc)⟩ (fun i σ H5 _ ⟨_, _, _, _, s5, _⟩ => SqL.of (s5 _ _ ec)) ?_ ?_⟩
      · rintro i x σ H5 hx ⟨ord', pa', o6, rfl, s5, e25, e35, B', hk', htp, hin⟩
        obtain ⟨c, hci, rfl⟩ := of_map hx
        have hcn : c ∈ near ls k := List.mem_of_getElem? hci
        have hcl : c < n := near_lt hlt hcn
        have htk : (near ls k).take (i + 1) = (near ls k).take i ++ [c] := by rw [List.take_add_one, hci]; rfl
        have hbl := B'.len
        refine ⟨_, rfl, _, rfl, d, _, rfl, DGet.k (k := .inl (c : Int)) e25, ?_⟩
        by_cases hm : c ∈ ord'
        · rw [kvW_some hm]
          refine ⟨_, rfl, iteF ⟨ord', pa', _, rfl, s5, e25, e35, B', hk', htp, fun x hx => ?_⟩⟩
          rw [htk] at hx
          rcases List.mem_append.mp hx with hx | hx
          · exact hin x hx
          · rw [List.mem_singleton] at hx; subst hx; exact hm
        · rw [kvW_none.mpr hm]
          have hdc := B'.dep_at R hv hdp hk' hcn hm hcl
          have hkm' : k ∈ ord' := List.mem_of_getElem? hk'
          have hkl' := (List.getElem?_eq_some_iff.mp hk').1
          have gk5 : DGet H5 d (V.int (k : Int)) (some (vO (some (dp k)))) := .inl ⟨_, .inl (k : Int), .inl e25, rfl, (kvW_some (pa := fun k => some (dp k)) hkm').symm⟩
          refine ⟨_, rfl, iteT ⟨_, rfl, _, rfl, d, _, rfl, gk5, _, _, rfl, rfl, _, rfl, _, rfl, d, _, rfl, DPut.k (k := .inl (c : Int)) e25 (smallt (by show (ord'.map _).length ≤ _; rw [List.length_map]; omega)), ?_⟩⟩
          have epu : putK (kvW ord' fun k => some (dp k)) (.inl (c : Int)) (V.int (((dp k : Nat) : Int) + 1)) = kvW (ord' ++ [c]) fun k => some (dp k) := by
            rw [← kvW_put hm]
            show putK _ _ _ = putK _ _ (vO (some (dp c)))
            rw [hdc]
            rfl
          have e26 : (upd H5 d (.dK (putK (kvW ord' fun k => some (dp k)) (.inl (c : Int)) (V.int (((dp k : Nat) : Int) + 1))))) d = some (.dK (kvW (ord' ++ [c]) fun k => some (dp k))) := by rw [upd_same, epu]
          have s6 := same_upd s5 hd (.dK (putK (kvW ord' fun k => some (dp k)) (.inl (c : Int)) (V.int (((dp k : Nat) : Int) + 1))))
          have e36 : (upd H5 d (.dK (putK (kvW ord' fun k => some (dp k)) (.inl (c : Int)) (V.int (((dp k : Nat) : Int) + 1))))) o = some (.lst ((ord'.drop (pl + 1)).map vN)) := by rw [upd_ne (Ne.symm hod)]; exact e35
          refine ⟨_, rfl, .inl ⟨rfl, _, SqL.of e36⟩, _, rfl, o, _, _, rfl, rfl, e36, smallt (by rw [List.length_map, List.length_drop]; omega), ?_⟩
          refine ⟨ord' ++ [c], _, some (vN c), rfl, same_upd s6 ho0 _, by rw [upd_ne hod]; exact e26, ?_, B'.meet hk' hcn hm hcl, ?_, ?_, fun x hx => ?_⟩
          · rw [upd_same, List.drop_append_of_le_length (by omega), List.map_append]
            rfl
          · rw [List.getElem?_append_left hkl']; exact hk'
          · rw [List.take_append_of_le_length (by omega)]; exact htp
          · rw [htk] at hx
            rcases List.mem_append.mp hx with hx | hx
            · exact List.mem_append.mpr (.inl (hin x hx))
            · exact List.mem_append.mpr (.inr hx)
      · rintro σ H5 ⟨ord', pa', o6, rfl, s5, e25, e35, B', hk', htp, hin⟩
        rw [List.length_map, List.take_length] at hin
        have B2 := B'.next hk' hin
        have hle2 := B2.le
        have hbl2 := B'.len
        have htk' : ord'.take (pl + 1) = ord.take pl ++ [k] := by rw [List.take_add_one, hk', htp]; rfl
        refine ⟨n - (pl + 1), by omega, ord', pa', pl + 1, ms', some (vN k), o6, rfl, rfl, s5, e25, e35, B2, fun x hx => ?_, ?_⟩
        · rw [htk'] at hx
          rw [hms']
          rcases List.mem_append.mp hx with hx | hx
          · have := hms x hx
            split <;> omega
          · rw [List.mem_singleton.mp hx]
            split <;> omega
        · rw [htk', hms']
          by_cases c : dp k > ms
          · rw [if_pos c]
            exact .inr ⟨k, by simp, rfl⟩
          · rw [if_neg c]
            rcases hme with z | ⟨x, hx, e⟩
            · exact .inl z
            · exact .inr ⟨x, List.mem_append.mpr (.inl hx), e⟩
  · rintro σ H2 Q1 Q2 hQ ⟨v1, h1, h2, h⟩
    refine ⟨v1, h1, h2, fun z hz => ?_⟩
    obtain ⟨a', b', xs, e1, e2, e3, e4, k, e5, h⟩ := h z hz
    exact ⟨a', b', xs, e1, e2, e3, e4, k, e5, hQ _ _ h⟩
end
end K09


set_option Elab.async false
set_option linter.all false
set_option maxRecDepth 100000
set_option maxHeartbeats 4000000
namespace K09
open PySem L2 KM KD PyProof.Rows
section
variable {P : Program} {w : World} {K : PySem.W.Frag} {mg : Str → Option Value} {base : Heap} {f : Addr} {fd : FuncData}
theorem scMidsBy : FnScope ["_law_near", "_law_found"] ["_law_near"] (defScope sMiddlesBy) := ⟨rfl, rfl, rfl, by decide +kernel, rfl, by decide +kernel, by decide +kernel⟩
theorem ndKNm : (["_law_knot", "_law_near"] : List Str).Nodup := by decide +kernel
theorem ndKFm : (["_law_knot", "_law_found"] : List Str).Nodup := by decide +kernel
theorem ok_midsBy {f1 : Addr} {d1 : FuncData} (F : Fun K "_law_middles_by" "_law_middles_by" sMiddlesBy f fd) (GF : Kit P w K mg base 1 "_law_farness_at" ["_law_near", "_law_start"] spFarAt f1 d1) (ml : mg "len" = none) (mr : mg "range" = none) (mm : mg "min" = none) : FnOk P w K mg base CX0 2 f fd ["_law_near"] spMidsBy := by
  refine F.ok scMidsBy (fun vs H Q E h => ?_) (fun cdv A outer s H vs Q E hr h => ?_)
  · obtain ⟨b, bs, n, ls, rfl, _⟩ := h
    rfl
  obtain ⟨b, bs, n, ls, rfl, B, hF, hn0, hn, q⟩ := h
  refine ⟨_, pss_cons (ps_set (i := 1) scMidsBy.nd rfl (Or.inr rfl)
        (pe_comp (N' := ["_law_knot", "_law_near"]) (js := [none, some 0])
          (CompOk.free1 (x := "_law_near") (nms := [(".0", .local), ("_law_knot", .local), ("_law_farness_at", .globalImplicit), ("_law_near", .cell)]) rfl (by decide +kernel) (by decide +kernel) rfl rfl rfl rfl (by decide +kernel) (by
            intro j i h
            match j, h with
            | 0, h => cases h
            | 1, h => cases h; exact ⟨rfl, rfl⟩) rfl (Or.inl rfl)) rfl
          (pi_range1 rfl mr (pa_cons (pe_callB call_len_seq rfl ml PySem.boot_len (pa_cons (pv 0) pa_nil)) pa_nil)) (fun _ _ _ _ => pg_name (i := 0) ndKNm rfl (Or.inl rfl)) (fun _ _ _ _ => pif_nil)
          (fun _ _ _ _ => pe_call GF.ok hr rfl GF.mg GF.kp GF.bd .nil pass0 (pa_cons (pv 1) (pa_cons (pv 0) pa_nil)))))
    (pss_one (ps_ret (pe_comp (N' := ["_law_knot", "_law_found"]) (js := [none, some 1])
        (CompOk.free1 (x := "_law_found") (nms := [(".0", .local), ("_law_knot", .local), ("min", .globalImplicit), ("_law_found", .cell)]) rfl (by decide +kernel) (by decide +kernel) rfl rfl rfl rfl (by decide +kernel) (by
            intro j i h
            match j, h with
            | 0, h => cases h
            | 1, h => cases h; exact ⟨rfl, rfl⟩) rfl (Or.inl rfl)) rfl
        (pi_range1 rfl mr (pa_cons (pe_callB call_len_seq rfl ml PySem.boot_len (pa_cons (pv 0) pa_nil)) pa_nil)) (fun _ _ _ _ => pg_name (i := 0) ndKFm rfl (Or.inl rfl))
        (fun _ _ _ _ => pif_one (pt_cmpR op_eq (pe_ix ix_listC (pv 1) (pv 0) (fun _ _ => rfl)) (pe_callB (call_minLC rfl) rfl mm PyProof.Rows.boot_min (pa_cons (pv 1) pa_nil)) (nomark _))) (fun _ _ _ _ => pv 0)))), ?_⟩
  have hlb : (bs.map V.ref).length = n := by rw [List.length_map, B.len]
  have hel := eccs_len n ls
  refine ⟨_, rfl, b, _, rfl, .inl (SqL.of B.top), _, rfl, by omega, by rw [hlb]; omega, ?_⟩
  rw [hlb, Int.toNat_natCast]
  refine comp_range (fun D i ys τ H5 => (∃ o, τ = [o, some (.ref b)]) ∧ ys = ((eccs n ls).take i).map vN ∧ Same H H5 ∧ H D = none ∧ H5 D = some (.lst ys)) (fun D hD => ⟨⟨_, rfl⟩, rfl, same_new hD _, hD, upd_same⟩) ?_ ?_
  · rintro D i ys τ H5 hi ⟨⟨o, rfl⟩, rfl, s5, hD, e5⟩
    dsimp only [gName, tAlways]
    rw [if_pos rfl]
    refine ⟨_, rfl, _, rfl, b, bs, n, i, ls, rfl, B.up s5, hF, hi, hn, fun H6 s6 => ?_⟩
    refine ⟨s6 _ _ e5, smallt (by rw [List.length_map, List.length_take]; omega), Nx.mk hi ⟨⟨_, rfl⟩, ?_, same_upd (s5.trans s6) hD _, hD, upd_same⟩⟩
    rw [List.take_add_one, eccs_get hi, List.map_append]
    rfl
  · rintro D ys τ H5 ⟨_, rfl, s5, hD, e5⟩
    rw [List.take_of_length_le (by rw [hel]; exact Nat.le_refl _)] at e5
    obtain ⟨m, hm, hle⟩ := least_ecc (n := n) ls hn0
    have e5' := e5
    rw [vN_int] at e5'
    refine ⟨_, rfl, b, _, rfl, .inl (SqL.of (s5 _ _ B.top)), _, rfl, by omega, by rw [hlb]; omega, ?_⟩
    rw [hlb, Int.toNat_natCast]
    refine comp_range (fun D2 i ys τ H6 => (∃ o1, τ = [o1, some (.ref D)]) ∧ ys = (midTo n ls m i).map vN ∧ Same H5 H6 ∧ H5 D2 = none ∧ H6 D2 = some (.lst ys)) (fun D2 hD2 => ⟨⟨_, rfl⟩, rfl, same_new hD2 _, hD2, upd_same⟩) ?_ ?_
    · rintro D2 i ys τ H6 hi ⟨⟨o1, rfl⟩, rfl, s6, hD2, e6⟩
      have hml := midTo_len n m i ls
      dsimp only [gName]
      refine ⟨_, rfl, _, rfl, D, _, _, _, rfl, rfl, SqL.of (s6 _ _ e5), at_map (eccs_get hi), _, rfl, D, _, (m : Int), rfl, SqL.of (s6 _ _ e5'), List.mem_map_of_mem hm, fun x hx => ?_, rfl, decide (ecc n ls i = m), ?_, ?_⟩
      · obtain ⟨y, hy, rfl⟩ := List.mem_map.mp hx
        have := hle y hy
        omega
      · show V.bl (decide (vN (ecc n ls i) = V.int (m : Int))) = _
        congr 1
        by_cases z : ecc n ls i = m
        · rw [z]; exact (decide_eq_true rfl).trans (decide_eq_true rfl).symm
        · rw [decide_eq_false z, decide_eq_false fun y => z (by have := V.int.inj y; omega)]
      by_cases z : ecc n ls i = m
      · rw [decide_eq_true z]
        dsimp only
        rw [if_pos rfl]
        refine ⟨_, rfl, e6, smallt (by rw [List.length_map]; omega), Nx.mk hi ⟨⟨_, rfl⟩, ?_, same_upd s6 hD2 _, hD2, upd_same⟩⟩
        rw [midTo_hit z, List.map_append]
        rfl
      · rw [decide_eq_false z]
        dsimp only
        rw [if_neg Bool.false_ne_true]
        exact Nx.mk hi ⟨⟨_, rfl⟩, by rw [midTo_miss z], s6, hD2, e6⟩
    · rintro D2 ys τ H6 ⟨_, rfl, s6, hD2, e6⟩
      rw [midTo_all hm hle] at e6
      exact q D2 H6 (s5.trans s6) (s5.free hD2) e6
end
end K09


set_option Elab.async false
set_option linter.all false
set_option maxRecDepth 100000
set_option maxHeartbeats 4000000
namespace K09
open PySem L2 KM KD PyProof.Rows
section
variable {P : Program} {w : World} {K : PySem.W.Frag} {mg : Str → Option Value} {base : Heap} {f : Addr} {fd : FuncData}
theorem scFreeText : FnScope ["_law_near", "_law_found", "_law_one", "_law_other"] ["_law_near"] (defScope sFreeText) := ⟨rfl, rfl, rfl, by decide +kernel, rfl, by decide +kernel, by decide +kernel⟩
theorem ok_freeText {f1 f2 : Addr} {d1 d2 : FuncData} (F : Fun K "_law_free_text" "_law_free_text" sFreeText f fd) (GM : Kit P w K mg base 2 "_law_middles_by" ["_law_near"] spMidsBy f1 d1) (GB : Kit P w K mg base 63 "_law_branch" ["_law_near", "_law_knot", "_law_back"] (spBranch 63) f2 d2)
    (ml : mg "len" = none) (ms : mg "sorted" = none) : FnOk P w K mg base CX0 64 f fd ["_law_near"] spFreeText := by
  refine F.ok scFreeText (fun vs H Q E h => ?_) (fun cdv A outer s H vs Q E hr h => ?_)
  · obtain ⟨b, bs, n, ls, rfl, _⟩ := h
    rfl
  obtain ⟨b, bs, n, ls, rfl, B, hF, hn0, hn, q⟩ := h
  have hr2 : Room 2 _ := hr.mono (by decide)
  refine ⟨_, pss_cons (ps_set (i := 1) scFreeText.nd rfl (Or.inl rfl) (pe_call GM.ok hr2 rfl GM.mg GM.kp GM.bd .nil pass0 (pa_cons (pv 0) pa_nil)))
    (pss_cons (ps_if (pt_cmpR op_eq (pe_callB call_len_seq rfl ml PySem.boot_len (pa_cons (pv 1) pa_nil)) pe_int (nomark _))
      (pss_one (ps_ret (pe_call GB.ok hr rfl GB.mg GB.kp GB.bd .nil pass0 (pa_cons (pv 0) (pa_cons (pe_ix ix_list (pv 1) pe_int (fun _ _ => rfl)) (pa_cons (pe_un un_neg pe_int) pa_nil)))))) pss_nil)
    (pss_cons (ps_set (i := 2) scFreeText.nd rfl (Or.inl rfl) (pe_call GB.ok hr rfl GB.mg GB.kp GB.bd .nil pass0 (pa_cons (pv 0) (pa_cons (pe_ix ix_list (pv 1) pe_int (fun _ _ => rfl)) (pa_cons (pe_ix ix_list (pv 1) pe_int (fun _ _ => rfl)) pa_nil)))))
    (pss_cons (ps_set (i := 3) scFreeText.nd rfl (Or.inl rfl) (pe_call GB.ok hr rfl GB.mg GB.kp GB.bd .nil pass0 (pa_cons (pv 0) (pa_cons (pe_ix ix_list (pv 1) pe_int (fun _ _ => rfl)) (pa_cons (pe_ix ix_list (pv 1) pe_int (fun _ _ => rfl)) pa_nil)))))
    (pss_one (ps_ret (pe_bm PySem.F.plainAttrs_str PySem.F.slot_str_join PySem.F.type_str_join mt_join pe_str (pa_cons (pe_callB call_sortedS rfl ms boot_sorted (pa_cons (pe_lst (pa_cons (pv 2) (pa_cons (pv 3) pa_nil))) pa_nil)) pa_nil))))))), ?_⟩
  refine ⟨_, rfl, b, bs, n, ls, rfl, B, hF, hn0, by omega, fun rt H1 s1 hrt ert => ?_⟩
  have B1 := B.up s1
  rcases mids_cases hF hn0 with ⟨m, em⟩ | ⟨a, c, em, hab, hj⟩
  · have hml : m < n := mids_lt (ls := ls) (by rw [em]; simp)
    rw [ff_one em] at q
    rw [em] at ert
    obtain ⟨hal, ⟨rk, T⟩, fo⟩ := at_spec hF hml
    refine ⟨_, rfl, rt, _, rfl, .inl (SqL.of ert), rfl, true, rfl, iteT ?_⟩
    refine ⟨_, rfl, _, rfl, rt, _, _, _, rfl, rfl, SqL.of ert, at_map (xs := [m]) (i := 0) rfl, 1, rfl, b, bs, ls, At n ls m, m, m, rk, -1, rfl, (by rw [hal]; exact B1), T, fo, by omega, by omega, by omega, fun c => ?_, fun H2 s2 => q H2 (s1.trans s2)⟩
    rw [T.root]
    exact ⟨fun _ z => (nomatch (Option.some.inj z)), fun _ z => by omega⟩
  · have hal : a < n := mids_lt (ls := ls) (by rw [em]; simp)
    have hcl : c < n := mids_lt (ls := ls) (by rw [em]; simp)
    rw [ff_two em] at q
    rw [em] at ert
    have Ra := at_spec hF hal
    have Rc := at_spec hF hcl
    have ka := Rc.kid (near_symm hj) hcl
    have kc := Ra.kid hj hal
    obtain ⟨hla, ⟨rka, Ta⟩, foa⟩ := id Ra
    obtain ⟨hlc, ⟨rkc, Tc⟩, foc⟩ := id Rc
    refine ⟨_, rfl, rt, _, rfl, .inl (SqL.of ert), rfl, false, rfl, iteF ?_⟩
    refine ⟨_, rfl, _, rfl, rt, _, _, _, rfl, rfl, SqL.of ert, at_map (xs := [a, c]) (i := 0) rfl, _, rfl, rt, _, _, _, rfl, rfl, SqL.of ert, at_map (xs := [a, c]) (i := 1) rfl, b, bs, ls, At n ls c, c, a, rkc, ((c : Nat) : Int), rfl, (by rw [hlc]; exact B1), Tc, foc, by omega, by omega, by omega, fun x => ?_, fun H2 s2 => ?_⟩
    · rw [ka]
      exact ⟨fun z y => z (by rw [Option.some.inj (Option.some.inj y)]), fun z y => z (by rw [show c = x by omega])⟩
    have ert2 := s2 _ _ ert
    refine ⟨_, rfl, _, rfl, rt, _, _, _, rfl, rfl, SqL.of ert2, at_map (xs := [a, c]) (i := 1) rfl, _, rfl, rt, _, _, _, rfl, rfl, SqL.of ert2, at_map (xs := [a, c]) (i := 0) rfl, b, bs, ls, At n ls a, a, c, rka, ((a : Nat) : Int), rfl, (by rw [hla]; exact B1.up s2), Ta, foa, by omega, by omega, by omega, fun x => ?_, fun H3 s3 => ?_⟩
    · rw [kc]
      exact ⟨fun z y => z (by rw [Option.some.inj (Option.some.inj y)]), fun z y => z (by rw [show a = x by omega])⟩
    have l1 : (br n ls c a).length ≤ 2 * 64 * 64 := Nat.le_trans (br_len hF (near_symm hj)) (Nat.mul_le_mul (Nat.mul_le_mul (Nat.le_refl _) (by omega)) (by omega))
    have l2 : (br n ls a c).length ≤ 2 * 64 * 64 := Nat.le_trans (br_len hF hj) (Nat.mul_le_mul (Nat.mul_le_mul (Nat.le_refl _) (by omega)) (by omega))
    refine ⟨rfl, _, rfl, _, rfl, (by show 2 ≤ sizeLine; decide), fun pp hpp => ?_⟩
    have epp : (upd H3 pp (.lst [vT (fm (At n ls c) a), vT (fm (At n ls a) c)])) pp = some (.lst (([br n ls c a, br n ls a c].map mkS).map V.str)) := upd_same
    have s6 := same_new hpp (.lst [vT (fm (At n ls c) a), vT (fm (At n ls a) c)])
    generalize upd H3 pp (.lst [vT (fm (At n ls c) a), vT (fm (At n ls a) c)]) = H6 at epp s6
    refine ⟨pp, _, rfl, SqL.of epp, (by show 2 < 64; decide), fun l ss' h1 h2 h3 => ?_⟩
    have es := sorted_is h1 h2
    subst es
    obtain ⟨x, y, exy, hxy⟩ := srt_two (br n ls c a) (br n ls a c)
    rw [dash_two exy] at q
    refine ⟨_, l, (srt [br n ls c a, br n ls a c]).map mkS, rfl, rfl, SqL.of upd_same, ?_, ?_⟩
    · rw [exy]
      have e1 : (Str.ofString "-").length = 1 := by rw [dashS]; rfl
      show ((mkS x).length + ((mkS y).length + 0)) + 2 * _ ≤ 16777216
      rw [e1, mkS_len, mkS_len]
      omega
    · rw [exy]
      show Q (V.str (Txt.join (Str.ofString "-") [mkS x, mkS y])) _
      rw [join_dash]
      exact q _ (s1.trans (s2.trans (s3.trans (s6.trans (same_new h3 _)))))
end
end K09


set_option Elab.async false
set_option linter.all false
set_option maxRecDepth 100000
set_option maxHeartbeats 4000000
namespace K09
open PySem L2 KM KD PyProof.Rows
section
variable {P : Program} {w : World} {K : PySem.W.Frag} {mg : Str → Option Value} {base : Heap} {f : Addr} {fd : FuncData}
theorem scAreKnots : FnScope ["_law_found", "_law_many", "_law_one"] ["_law_found", "_law_many"] (defScope sAreKnots) := ⟨rfl, rfl, rfl, by decide +kernel, rfl, by decide +kernel, by decide +kernel⟩
theorem ok_areKnotsI {f1 : Addr} {d1 : FuncData} (F : Fun K "_law_are_knots" "_law_are_knots" sAreKnots f fd) (GW : Kit P w K mg base 1 "_law_whole" ["_law_found"] spWhole f1 d1) (ml : mg "len" = none) (mi : mg "isinstance" = none) (mli : mg "list" = none) : FnOk P w K mg base CX0 2 f fd ["_law_found", "_law_many"] spAreKnotsI := by
  refine F.ok scAreKnots (fun vs H Q E h => ?_) (fun cdv A outer s H vs Q E hr h => ?_)
  · obtain ⟨a, ks, n, rfl, _⟩ := h
    rfl
  obtain ⟨a, ks, n, rfl, ha, hn, hn1, q⟩ := h
  refine ⟨_, pss_cons (ps_if (PW.pt (pw_or (pt_not (pt_val (pe_callB call_isi rfl mi boot_isinstance (pa_cons (pv 0) (pa_cons (pe_bltn (v := .ty "list") rfl mli PyProof.Rows.boot_list rfl) pa_nil)))))
      (pw_or1 (pt_cmpR op_ne (pe_callB call_len_seq rfl ml PySem.boot_len (pa_cons (pv 0) pa_nil)) (pv 1) (nomark _))))) pss_never pss_nil)
    (pss_cons (ps_for PassesOwn.never rfl (pi_list (pv 0)) (pg_name (i := 2) scAreKnots.nd rfl (Or.inl rfl))
      (pss_one (ps_if (pt_not (pt_val (pe_call GW.ok hr rfl GW.mg GW.kp GW.bd .nil pass0 (pa_cons (pv 2) pa_nil)))) pss_never pss_nil)))
    (pss_one (ps_ret pe_bl))), ?_⟩
  refine ⟨_, rfl, _, _, _, _, rfl, TyOf.lst ha, kitList K, _, rfl, iteF ?_⟩
  refine ⟨_, rfl, a, _, rfl, .inl (SqL.of ha), _, rfl, rfl, _, rfl, iteNS (by rw [List.length_map, hn]; rfl) ?_⟩
  refine ⟨_, rfl, a, rfl, ⟨_, SqL.of ha⟩, for_list (K := K) (a := a) (xs := ks.map V.int) (fun i σ H3 => (∃ o, σ = [some (.ref a), some (vN n), o]) ∧ Same H H3) ⟨⟨_, rfl⟩, Same.refl _⟩ (fun i σ H3 _ ⟨_, s3⟩ => SqL.of (s3 _ _ ha)) ?_ ?_⟩
  · rintro i x σ H3 hx ⟨⟨o, rfl⟩, s3⟩
    obtain ⟨k, hk, rfl⟩ := of_map hx
    exact ⟨_, rfl, k, rfl, fun H4 s4 => ⟨_, rfl, iteF ⟨⟨_, rfl⟩, s3.trans s4⟩⟩⟩
  · rintro σ H3 ⟨⟨o, rfl⟩, s3⟩
    exact q H3 s3
end
end K09


set_option Elab.async false
set_option linter.all false
set_option maxRecDepth 100000
set_option maxHeartbeats 4000000
namespace K09
open PySem L2 KM KD PyProof.Rows
section
variable {P : Program} {w : World} {K : PySem.W.Frag} {mg : Str → Option Value} {base : Heap} {f : Addr} {fd : FuncData}
theorem scKept : FnScope ["_law_handed", "_law_tree", "_law_pair"] ["_law_handed", "_law_tree"] (defScope sKeptWhole) := ⟨rfl, rfl, rfl, by decide +kernel, rfl, by decide +kernel, by decide +kernel⟩
theorem ok_kept {f1 f2 : Addr} {d1 d2 : FuncData} (F : Fun K "_law_kept_whole" "_law_kept_whole" sKeptWhole f fd) (GW : Kit P w K mg base 1 "_law_whole" ["_law_found"] spWhole f1 d1) (GA : Kit P w K mg base 2 "_law_are_knots" ["_law_found", "_law_many"] spAreKnotsI f2 d2) (ml : mg "len" = none) (mi : mg "isinstance" = none) (mli : mg "list" = none) (mtu : mg "tuple" = none) :
    FnOk P w K mg base CX0 3 f fd ["_law_handed", "_law_tree"] spKept := by
  refine F.ok scKept (fun vs H Q E h => ?_) (fun cdv A outer s H vs Q E hr h => ?_)
  · obtain ⟨t, L, t', L', ps, ps', c, li, rfl, _⟩ := h
    rfl
  obtain ⟨t, L, t', L', ps, ps', c, li, rfl, G, G', hn, q⟩ := h
  have hr1 : Room 1 _ := hr.mono (by decide)
  refine ⟨_, pss_cons (ps_if (PW.pt (pw_or (pt_not (pt_val (pe_callB call_isi rfl mi boot_isinstance (pa_cons (pv 0) (pa_cons (pe_bltn (v := .ty "tuple") rfl mtu PyProof.Rows.boot_tuple rfl) pa_nil)))))
      (pw_or1 (pt_cmpR op_ne (pe_callB call_len_seq rfl ml PySem.boot_len (pa_cons (pv 0) pa_nil)) pe_int (nomark _))))) pss_never pss_nil)
    (pss_cons (ps_if (pt_not (pt_val (pe_call GW.ok hr1 rfl GW.mg GW.kp GW.bd .nil pass0 (pa_cons (pe_ix ix_tup (pv 0) pe_int (fun _ _ => rfl)) pa_nil)))) pss_never pss_nil)
    (pss_cons (ps_for PassesOwn.never rfl (pi_list (pe_ix ix_tup (pv 0) pe_int (fun _ _ => rfl))) (pg_name (i := 2) scKept.nd rfl (Or.inl rfl))
      (pss_one (ps_if (PW.pt (pw_or (pt_not (pt_val (pe_callB call_isi rfl mi boot_isinstance (pa_cons (pv 2) (pa_cons (pe_bltn (v := .ty "tuple") rfl mtu PyProof.Rows.boot_tuple rfl) pa_nil)))))
        (pw_or1 (pt_not (pt_val (pe_call GA.ok hr rfl GA.mg GA.kp GA.bd .nil pass0 (pa_cons (pe_callTy call_list_of rfl mli PyProof.Rows.boot_list (pa_cons (pv 2) pa_nil)) (pa_cons pe_int pa_nil)))))))) pss_never pss_nil)))
    (pss_one (ps_ret (pe_cmpR (op_eqTr (by have := hr.un; show (A.deeper (envOfC "_law_kept_whole" (defScope sKeptWhole) s.heap.objs.size f cdv)).units + 2 < cLine; omega)) (pv 0) (pv 1) (nomark _)))))), ?_⟩
  refine ⟨_, rfl, _, _, _, _, rfl, TyOf.tup G.tup, kitTup K, _, rfl, iteF ?_⟩
  refine ⟨_, rfl, t, _, rfl, .inr (SqT.of G.tup), rfl, _, rfl, iteNS rfl ?_⟩
  refine ⟨_, rfl, t, _, _, _, rfl, rfl, SqT.of G.tup, rfl, c, rfl, fun H1 s1 => ⟨_, rfl, iteF ?_⟩⟩
  have G1 := G.up s1
  refine ⟨_, rfl, t, _, _, _, rfl, rfl, SqT.of G1.tup, rfl, L, rfl, ⟨_, SqL.of G1.ls.top⟩, for_list (K := K) (a := L) (xs := ps.map V.ref) (fun i σ H3 => (∃ o, σ = [some (.ref t), some (.ref t'), o]) ∧ Same H1 H3) ⟨⟨_, rfl⟩, Same.refl _⟩ (fun i σ H3 _ ⟨_, s3⟩ => SqL.of (s3 _ _ G1.ls.top)) ?_ ?_⟩
  · rintro i x σ H3 hx ⟨⟨o, rfl⟩, s3⟩
    obtain ⟨d, hd, rfl⟩ := of_map hx
    have hil : i < li.length := by
      have := (List.getElem?_eq_some_iff.mp hd).1
      rw [G.ls.len, List.length_map] at this
      exact this
    obtain ⟨d', hd', ed⟩ := LinesAt.at (G1.ls.up s3) hil
    rw [hd] at hd'
    cases hd'
    refine ⟨_, rfl, _, _, _, _, rfl, TyOf.tup ed, kitTup K, _, rfl, iteF ?_⟩
    refine ⟨_, rfl, d, _, rfl, .inr (SqT.of ed), fun l hl => ?_⟩
    refine ⟨l, [li[i].1, li[i].2], 2, rfl, upd_same, rfl, by decide, fun H4 s4 => ⟨_, rfl, iteF ⟨⟨_, rfl⟩, s3.trans ((same_new hl _).trans s4)⟩⟩⟩
  · rintro σ H3 ⟨⟨o, rfl⟩, s3⟩
    have s13 := s1.trans s3
    exact ⟨_, rfl, _, rfl, t, t', c, L, L', ps, ps', _, rfl, rfl, (G.up s13).tup, (G'.up s13).tup, (G.up s13).ls, (G'.up s13).ls, q _ s13⟩
end
end K09


set_option Elab.async false
set_option linter.all false
set_option maxRecDepth 100000
set_option maxHeartbeats 4000000
namespace K09
open PySem L2 KM KD PyProof.Rows
section
variable {P : Program} {w : World} {K : PySem.W.Frag} {mg : Str → Option Value} {base : Heap} {f : Addr} {fd : FuncData}
theorem scLaw : FnScope ["_law_script", "_law_above", "_law_size", "_law_lines", "_law_names", "_law_trees", "_law_due", "_law_root", "_law_tree", "_law_near", "_law_handed", "_law_found", "_law_due_ones", "_law_told", "_law_upward", "_law_knot", "_law_below"] ["_law_script"] (defScope sLaw) := ⟨rfl, rfl, rfl, by decide +kernel, rfl, by decide +kernel, by decide +kernel⟩
theorem ndKRU : (["_law_knot", "_law_root", "_law_upward"] : List Str).Nodup := by decide +kernel
theorem ndOKU : (["_law_one", "_law_knot", "_law_upward"] : List Str).Nodup := by decide +kernel
theorem ok_law {f1 f2 f3 f4 f5 f6 f7 f8 f9 fa fb fc fe : Addr} {d1 d2 d3 d4 d5 d6 d7 d8 d9 da db dc de : FuncData} (F : Fun K "law" "law" sLaw f fd) (GMi : Kit P w K mg base 3 "middles" ["tree"] spMiddlesQ f1 d1) (GFf : Kit P w K mg base 4 "free_form" ["tree"] spFreeFormQ f2 d2) (GRa : Kit P w K mg base 3 "rooted_at" ["tree", "knot"] spRootedAtQ f3 d3)
    (GP : Kit P w K mg base 1 "_law_upto" ["_law_script", "_law_small", "_law_great"] (spUpto K) f4 d4) (GW : Kit P w K mg base 1 "_law_whole" ["_law_found"] spWhole f5 d5) (GA : Kit P w K mg base 1 "_law_at" ["_law_script", "_law_k"] (spAt K) f6 d6)
    (GR : Kit P w K mg base 1 "_law_rooted" ["_law_cells"] spRooted f7 d7) (GN : Kit P w K mg base 1 "_law_names_by" ["_law_cells", "_law_many"] spNames f8 d8) (GLo : Kit P w K mg base 1 "_law_lines_of" ["_law_above", "_law_cells"] spLinesOf f9 d9) (GAn : Kit P w K mg base 1 "_law_anew" ["_law_lines", "_law_names"] spAnew fa da)
    (GNo : Kit P w K mg base 1 "_law_near_of" ["_law_many", "_law_lines"] spNearOf fb db) (GMb : Kit P w K mg base 2 "_law_middles_by" ["_law_near"] spMidsBy fc dc) (GFt : Kit P w K mg base 64 "_law_free_text" ["_law_near"] spFreeText fe de)
    {fg fh : Addr} {dg dh : FuncData} (GAk : Kit P w K mg base 2 "_law_are_knots" ["_law_found", "_law_many"] spAreKnotsI fg dg) (GKp : Kit P w K mg base 3 "_law_kept_whole" ["_law_handed", "_law_tree"] spKept fh dh)
    (ml : mg "len" = none) (mli : mg "list" = none) (mr : mg "range" = none) (ms : mg "sorted" = none) (mi : mg "isinstance" = none) (mst : mg "str" = none) (mn : mg "int" = none) : FnOk P w K mg base CX0 65 f fd ["_law_script"] (spLaw K) := by
  refine F.ok scLaw (fun vs H Q E h => ?_) (fun cdv A outer s H vs Q E hr h => ?_)
  · obtain ⟨a, ns, rfl, _⟩ := h
    rfl
  obtain ⟨a, ns, rfl, hS, h63, q⟩ := h
  have hr1 : Room 1 _ := hr.mono (by decide)
  have hr2 : Room 2 _ := hr.mono (by decide)
  have hr3 : Room 3 _ := hr.mono (by decide)
  have hr4 : Room 4 _ := hr.mono (by decide)
  refine ⟨_, pss_cons (ps_set (i := 0) scLaw.nd rfl (Or.inl rfl) (pe_slice sl_list (pv 0) po_none (po_some pe_int)))
    (pss_cons (ps_set (i := 1) scLaw.nd rfl (Or.inl rfl) (pe_call GR.ok hr1 rfl GR.mg GR.kp GR.bd .nil pass0 (pa_cons (pe_slice sl_list (pv 0) (po_some pe_int) (po_some (pe_call GP.ok hr1 rfl GP.mg GP.kp GP.bd .nil pass0 (pa_cons (pv 0) (pa_cons pe_int (pa_cons pe_int pa_nil)))))) pa_nil)))
    (pss_cons (ps_set (i := 2) scLaw.nd rfl (Or.inl rfl) (pe_callB call_len_seq rfl ml PySem.boot_len (pa_cons (pv 1) pa_nil)))
    (pss_cons (ps_set (i := 3) scLaw.nd rfl (Or.inl rfl) (pe_call GLo.ok hr1 rfl GLo.mg GLo.kp GLo.bd .nil pass0 (pa_cons (pv 1) (pa_cons (pv 0) pa_nil))))
    (pss_cons (ps_set (i := 4) scLaw.nd rfl (Or.inl rfl) (pe_call GN.ok hr1 rfl GN.mg GN.kp GN.bd .nil pass0 (pa_cons (pv 0) (pa_cons (pv 2) pa_nil))))
    (pss_cons (ps_set (i := 5) scLaw.nd rfl (Or.inl rfl) (pe_lst (pa_cons (pe_tup (pa_cons (pv 2) (pa_cons (pv 3) pa_nil))) (pa_cons (pe_tup (pa_cons (pv 2) (pa_cons (pe_call GAn.ok hr1 rfl GAn.mg GAn.kp GAn.bd .nil pass0 (pa_cons (pv 3) (pa_cons (pv 4) pa_nil))) pa_nil))) pa_nil))))
    (pss_cons (ps_set (i := 6) scLaw.nd rfl (Or.inl rfl) (pe_call GFt.ok hr rfl GFt.mg GFt.kp GFt.bd .nil pass0 (pa_cons (pe_call GNo.ok hr1 rfl GNo.mg GNo.kp GNo.bd .nil pass0 (pa_cons (pv 2) (pa_cons (pv 3) pa_nil))) pa_nil)))
    (pss_cons (ps_set (i := 7) scLaw.nd rfl (Or.inr rfl) (pe_op op_mod (pe_call GA.ok hr1 rfl GA.mg GA.kp GA.bd .nil pass0 (pa_cons (pv 0) (pa_cons pe_int pa_nil))) (pv 2)))
    (pss_cons (ps_for PassesOwn.never rfl (pi_list (pv 5)) (pg_name (i := 8) scLaw.nd rfl (Or.inl rfl))
      (pss_cons (ps_set (i := 9) scLaw.nd rfl (Or.inl rfl) (pe_call GNo.ok hr1 rfl GNo.mg GNo.kp GNo.bd .nil pass0 (pa_cons (pv 2) (pa_cons (pe_ix ix_tup (pv 8) pe_int (fun _ _ => rfl)) pa_nil))))
      (pss_cons (ps_set (i := 10) scLaw.nd rfl (Or.inl rfl) (pe_tup (pa_cons (pv 2) (pa_cons (pe_callTy call_list_of rfl mli PyProof.Rows.boot_list (pa_cons (pe_ix ix_tup (pv 8) pe_int (fun _ _ => rfl)) pa_nil)) pa_nil))))
      (pss_cons (ps_set (i := 11) scLaw.nd rfl (Or.inl rfl) (pe_call GMi.ok hr3 rfl GMi.mg GMi.kp GMi.bd .nil pass0 (pa_cons (pv 10) pa_nil)))
      (pss_cons (ps_set (i := 12) scLaw.nd rfl (Or.inl rfl) (pe_callB call_sortedI rfl ms boot_sorted (pa_cons (pe_call GMb.ok hr2 rfl GMb.mg GMb.kp GMb.bd .nil pass0 (pa_cons (pv 9) pa_nil)) pa_nil)))
      (pss_cons (ps_if (PW.pt (pw_or (pt_not (pt_val (pe_call GAk.ok hr2 rfl GAk.mg GAk.kp GAk.bd .nil pass0 (pa_cons (pv 11) (pa_cons (pe_callB call_len_seq rfl ml PySem.boot_len (pa_cons (pv 12) pa_nil)) pa_nil))))) (pw_or1 (pt_cmpR (op_neL hr.units0) (pv 11) (pv 12) (nomark _))))) pss_never pss_nil)
      (pss_cons (ps_set (i := 13) scLaw.nd rfl (Or.inl rfl) (pe_call GFf.ok hr4 rfl GFf.mg GFf.kp GFf.bd .nil pass0 (pa_cons (pv 10) pa_nil)))
      (pss_cons (ps_if (PW.pt (pw_or (pt_not (pt_val (pe_callB call_isi rfl mi boot_isinstance (pa_cons (pv 13) (pa_cons (pe_bltn (v := .ty "str") rfl mst PyProof.Rows.boot_str rfl) pa_nil))))) (pw_or1 (pt_cmpR op_ne (pv 13) (pv 6) (nomark _))))) pss_never pss_nil)
      (pss_cons (ps_set (i := 14) scLaw.nd rfl (Or.inr rfl) (pe_call GRa.ok hr3 rfl GRa.mg GRa.kp GRa.bd .nil pass0 (pa_cons (pv 10) (pa_cons (pv 7) pa_nil))))
      (pss_cons (ps_if (PW.pt (pw_or (pt_not (pt_val (pe_callB call_isi rfl mi boot_isinstance (pa_cons (pv 14) (pa_cons (pe_bltn (v := .ty "list") rfl mli PyProof.Rows.boot_list rfl) pa_nil))))) (pw_or1 (pt_cmpR op_ne (pe_callB call_len_seq rfl ml PySem.boot_len (pa_cons (pv 14) pa_nil)) (pv 2) (nomark _))))) pss_never pss_nil)
      (pss_cons (ps_if (pt_cmp (pc_notN (pe_ix ix_list (pv 14) (pv 7) (fun _ _ => rfl)))) pss_never pss_nil)
      (pss_cons (ps_for PassesOwn.never rfl (pi_range1 rfl mr (pa_cons (pv 2) pa_nil)) (pg_name (i := 15) scLaw.nd rfl (Or.inr rfl))
        (pss_cons (ps_if (PW.pt (pw_and (pt_cmpR op_ne (pv 15) (pv 7) (nomark _)) (pw_and1 (pt_not (pt_val (pe_call GW.ok hr1 rfl GW.mg GW.kp GW.bd .nil pass0 (pa_cons (pe_ix ix_list (pv 14) (pv 15) (fun _ _ => rfl)) pa_nil))))))) pss_never pss_nil)
        (pss_one (ps_if (PW.pt (pw_and (pt_cmpR op_ne (pv 15) (pv 7) (nomark _)) (pw_and1 (pt_cmpR op_notIn_seq (pe_ix ix_list (pv 14) (pv 15) (fun _ _ => rfl)) (pe_ix ix_list (pv 9) (pv 15) (fun _ _ => rfl)) rfl)))) pss_never pss_nil))))
      (pss_cons (ps_if (pt_cmpR op_gt (pe_callB call_len_seq rfl ml PySem.boot_len (pa_cons
          (pe_comp (N' := ["_law_knot", "_law_root", "_law_upward"]) (js := [none, some 7, some 14])
            (CompOk.free2 (x := "_law_upward") (y := "_law_root") (nms := [(".0", .local), ("_law_knot", .local), ("_law_root", .cell), ("_law_upward", .cell)]) rfl (by decide +kernel) (by decide +kernel) rfl rfl rfl rfl rfl (by decide +kernel) (by
              intro j i h
              match j, h with
              | 0, h => cases h
              | 1, h => cases h; exact .inr ⟨rfl, rfl⟩
              | 2, h => cases h; exact .inl ⟨rfl, rfl⟩) rfl rfl (Or.inl rfl) (Or.inl rfl)) rfl
            (pi_list (pe_ix ix_list (pv 9) (pv 7) (fun _ _ => rfl))) (fun _ _ _ _ => pg_name (i := 0) ndKRU rfl (Or.inl rfl))
            (fun _ _ _ _ => pif_one (pt_cmpR op_ne (pe_ix ix_listC (pv 2) (pv 0) (fun _ _ => rfl)) (pv 1) (nomark _))) (fun _ _ _ _ => pv 0)) pa_nil)) pe_int (nomark _)) pss_never pss_nil)
      (pss_cons (ps_for PassesOwn.never rfl (pi_range1 rfl mr (pa_cons (pv 2) pa_nil)) (pg_name (i := 15) scLaw.nd rfl (Or.inr rfl))
        (pss_cons (ps_setComp (N' := ["_law_one", "_law_knot", "_law_upward"]) (js := [none, some 15, some 14]) (i := 16) scLaw.nd rfl (Or.inl rfl)
            (CompOk.free2 (x := "_law_upward") (y := "_law_knot") (nms := [(".0", .local), ("_law_one", .local), ("_law_knot", .cell), ("_law_upward", .cell)]) rfl (by decide +kernel) (by decide +kernel) rfl rfl rfl rfl rfl (by decide +kernel) (by
              intro j i h
              match j, h with
              | 0, h => cases h
              | 1, h => cases h; exact .inr ⟨rfl, rfl⟩
              | 2, h => cases h; exact .inl ⟨rfl, rfl⟩) rfl rfl (Or.inl rfl) (Or.inl rfl)) rfl
            (pi_list (pe_ix ix_list (pv 9) (pv 15) (fun _ _ => rfl))) (fun _ _ _ _ => pg_name (i := 0) ndOKU rfl (Or.inl rfl))
            (fun _ _ _ _ => pif_one (pt_cmpR op_eq (pe_ix ix_listC (pv 2) (pv 0) (fun _ _ => rfl)) (pv 1) (nomark _))) (fun _ _ _ _ => pv 0))
        (pss_one (ps_if (pt_cmpR op_ne (pe_callB call_len_seq rfl ml PySem.boot_len (pa_cons (pv 16) pa_nil)) (pe_op op_sub (pe_callB call_len_seq rfl ml PySem.boot_len (pa_cons (pe_ix ix_list (pv 9) (pv 15) (fun _ _ => rfl)) pa_nil))
            (pe_callTy call_int1 rfl mn PyProof.Rows.boot_int (pa_cons (pe_cmpR op_ne (pv 15) (pv 7) (nomark _)) pa_nil))) (nomark _)) pss_never pss_nil))))
      (pss_one (ps_if (pt_not (pt_val (pe_call GKp.ok hr3 rfl GKp.mg GKp.kp GKp.bd .nil pass0 (pa_cons (pv 10) (pa_cons (pv 8) pa_nil))))) pss_never pss_nil))))))))))))))))
    (pss_one (ps_ret pe_bl)))))))))), ?_⟩
  refine ⟨_, rfl, _, rfl, a, _, rfl, hS, fun p1 hp1 => ?_⟩
  have e1 : cutV (ns.map V.int) none (some (99 : Int)) = (ns.take 99).map V.int := (cutTake _ 99).trans List.map_take.symm
  rw [e1]
  generalize hms : ns.take 99 = ms
  have hn0 : ms.length ≤ 63 := by rw [← hms, List.length_take]; omega
  have hn1 : (ms.map V.int).length ≤ 63 := by rw [List.length_map]; exact hn0
  have ep1 : (upd H p1 (.lst (ms.map V.int))) p1 = some (.lst (ms.map V.int)) := upd_same
  generalize upd H p1 (.lst (ms.map V.int)) = H1 at ep1
  refine ⟨_, rfl, _, rfl, _, rfl, p1, _, 15, 99, rfl, SqL.of ep1, hn1, fun H2 s2 => ?_⟩
  have ep1 := s2 _ _ ep1
  refine ⟨_, rfl, p1, _, rfl, SqL.of ep1, fun p2 hp2 => ?_⟩
  obtain ⟨cs, ecs, hcs⟩ := cutMid2 ms 1 15
  have ecs' : cutV (ms.map V.int) (some 1) (some 15) = cs.map V.int := ecs
  rw [ecs']
  have s3 := same_new hp2 (.lst (cs.map V.int))
  refine ⟨p2, cs, rfl, upd_same, by omega, fun ar ab H3 s4 U hlen har ear => ?_⟩
  have ep1 := s4 _ _ (s3 _ _ ep1)
  have hl : (ab.map vO).length = ab.length := List.length_map _
  have hpos := U.pos
  have h15 : ab.length ≤ 15 := by omega
  refine ⟨_, rfl, ar, _, rfl, .inl (SqL.of ear), ?_⟩
  rw [hl]
  refine ⟨_, rfl, _, rfl, ar, p1, ab, ms, rfl, ear, ep1, U, by omega, by omega, fun L0 ps0 ls0 H4 s5 G0 f0 => ?_⟩
  have ep1 := s5 _ _ ep1
  refine ⟨_, rfl, _, rfl, p1, ms, ab.length, rfl, ep1, by omega, by omega, fun pn nm H5 s6 hnm en => ?_⟩
  have hnl : nm.length = ab.length := by rw [hnm.length_eq, List.length_range]
  have hl0 := f0.len U.tree
  have ep1 := s6 _ _ ep1
  have G0 := G0.up s6
  refine ⟨_, rfl, _, rfl, (by show 2 ≤ sizeLine; decide), fun t1 ht1 => ?_⟩
  have s7 := same_new ht1 (.tup [.int ((ab.length : Nat) : Int), .ref L0])
  have et1 : (upd H5 t1 (.tup [.int ((ab.length : Nat) : Int), .ref L0])) t1 = some (.tup [.int ((ab.length : Nat) : Int), .ref L0]) := upd_same
  have G0 := G0.up s7
  have en := s7 _ _ en
  have ep1 := s7 _ _ ep1
  generalize upd H5 t1 (.tup [.int ((ab.length : Nat) : Int), .ref L0]) = H6 at s7 et1 G0 en ep1
  refine ⟨_, rfl, _, rfl, _, rfl, L0, pn, ps0, ls0, nm, rfl, G0, en, fun p hp => by rw [hnl]; exact f0.lt U.tree hp, by omega, fun L ps H7 s8 G => ?_⟩
  have F0 : IsFree ab.length ls0 := ⟨ab, 0, id, U.tree, rfl, f0⟩
  have Fr : IsFree ab.length (anewL ls0 nm) := IsFree.anew F0 hnm
  have hffe : ff ab.length (anewL ls0 nm) = ff ab.length ls0 := ff_joins F0 Fr hnm joins_anew hpos
  have et1 := s8 _ _ et1
  have G0 := G0.up s8
  have ep1 := s8 _ _ ep1
  generalize anewL ls0 nm = ls at G Fr hffe
  refine ⟨(by show 2 ≤ sizeLine; decide), fun t2 ht2 => ⟨(by show 2 ≤ sizeLine; decide), fun tr htr => ?_⟩⟩
  have s9 := same_new ht2 (.tup [.int ((ab.length : Nat) : Int), .ref L])
  have et2 : (upd H7 t2 (.tup [.int ((ab.length : Nat) : Int), .ref L])) t2 = some (.tup [.int ((ab.length : Nat) : Int), .ref L]) := upd_same
  have s10 := same_new htr (.lst [.ref t1, .ref t2])
  have etr : (upd (upd H7 t2 (.tup [.int ((ab.length : Nat) : Int), .ref L])) tr (.lst [.ref t1, .ref t2])) tr = some (.lst [.ref t1, .ref t2]) := upd_same
  have et2 := s10 _ _ et2
  have s11 := s9.trans s10
  have et1 := s11 _ _ et1
  have G0 := G0.up s11
  have G := G.up s11
  have ep1 := s11 _ _ ep1
  generalize upd (upd H7 t2 (.tup [.int ((ab.length : Nat) : Int), .ref L])) tr (.lst [.ref t1, .ref t2]) = H8 at et1 et2 etr G0 G ep1
  clear s2 s3 s4 s5 s6 s7 s8 s9 s10 s11 ear har en
  generalize ab.length = n at hpos h15 Fr F0 hffe et1 et2 hl0
  have hll := Fr.len
  clear U hlen hl hnm hnl f0
  refine ⟨_, rfl, _, rfl, L0, ps0, n, ls0, rfl, G0, fun p hp => F0.lt hp, by omega, by omega, fun b0 bs0 H9 s12 B0 => ?_⟩
  refine ⟨b0, bs0, n, ls0, rfl, B0, F0, hpos, by omega, fun H10 s13 => ?_⟩
  have s14 := s12.trans s13
  have ep1 := s14 _ _ ep1
  have hne : ((n : Nat) : Int) ≠ 0 := by omega
  have hp0 : (0 : Int) < ((n : Nat) : Int) := by omega
  refine ⟨_, rfl, p1, ms, 0, rfl, SqL.of ep1, fun i0 H11 s15 => ?_⟩
  refine ⟨_, rfl, _, _, rfl, rfl, hp0, ?_⟩
  obtain ⟨kr, hkr⟩ := Int.eq_ofNat_of_zero_le (Int.emod_nonneg i0 hne)
  have hkrl : kr < n := by have := Int.emod_lt_of_pos i0 hp0; rw [hkr] at this; omega
  change gName 7 (V.int (i0 % ((n : Nat) : Int))) _ _ _
  rw [hkr]
  have s16 := s14.trans s15
  have Tr1 : TreeAt H11 t1 L0 ps0 ((n : Nat) : Int) (toL ls0) := ⟨s16 _ _ et1, G0.up s16⟩
  have Tr2 : TreeAt H11 t2 L ps ((n : Nat) : Int) (toL ls) := ⟨s16 _ _ et2, G.up s16⟩
  have etr := s16 _ _ etr
  clear G0 G et1 et2 B0 s12 s13 s14 s15 s16
  refine ⟨_, rfl, tr, rfl, ⟨_, SqL.of etr⟩, for_list (K := K) (a := tr) (xs := [.ref t1, .ref t2]) (fun i σ H12 => (∃ x0 x1 x3 x4 o8 o9 o10 o11 o12 o13 o14 o15 o16, σ = [x0, x1, some (.int ((n : Nat) : Int)), x3, x4, some (.ref tr), some (vT (ff n ls0)), some (vN kr), o8, o9, o10, o11, o12, o13, o14, o15, o16]) ∧ Same H11 H12)
    ⟨⟨_, _, _, _, _, _, _, _, _, _, _, _, _, rfl⟩, Same.refl _⟩ (fun i σ H12 _ ⟨_, s17⟩ => SqL.of (s17 _ _ etr)) ?_ ?_⟩
  · rintro i x σ H12 hx ⟨⟨x0, x1, x3, x4, o8, o9, o10, o11, o12, o13, o14, o15, o16, rfl⟩, s17⟩
    obtain ⟨t, L, ps, ls, rfl, Tr, Fr, hffe⟩ : ∃ (t L : Addr) (ps : List Addr) (ls : Ln), x = .ref t ∧ TreeAt H12 t L ps ((n : Nat) : Int) (toL ls) ∧ IsFree n ls ∧ ff n ls = ff n ls0 := by
      match i, hx with
      | 0, hx => cases hx; exact ⟨t1, L0, ps0, ls0, rfl, Tr1.up s17, F0, rfl⟩
      | 1, hx => cases hx; exact ⟨t2, _, _, _, rfl, Tr2.up s17, Fr, hffe⟩
    clear Tr1 Tr2
    have hll := Fr.len
    refine ⟨_, rfl, _, rfl, t, _, _, _, rfl, rfl, SqT.of Tr.tup, rfl, L, ps, n, ls, rfl, Tr.ls, fun p hp => Fr.lt hp, by omega, by omega, fun b bs H13 s18 B => ?_⟩
    have Tr := Tr.up s18
    refine ⟨_, rfl, _, rfl, t, _, _, _, rfl, rfl, SqT.of Tr.tup, rfl, L, _, rfl, .inl (SqL.of Tr.ls.top), fun h1 hh1 => ⟨(by show 2 ≤ sizeLine; decide), fun th hth => ?_⟩⟩
    obtain ⟨Th, s19⟩ := tree_new (n := n) Tr.ls hh1 hth
    have Tr := Tr.up s19
    have B := B.up s19
    have s20 := s18.trans s19
    generalize upd (upd H13 h1 (.lst (ps.map V.ref))) th (.tup [.int ((n : Nat) : Int), .ref h1]) = H14 at Th s19 Tr B s20
    refine ⟨_, rfl, th, h1, ps, n, ls, rfl, Th, Fr, by omega, fun pm H15 s21 hpm epm => ?_⟩
    have hml := mids_len (n := n) (ls := ls)
    refine ⟨_, rfl, b, bs, n, ls, rfl, B.up s21, Fr, hpos, by omega, fun pb H16 s22 hpb epb => ?_⟩
    rw [vN_int] at epb
    refine ⟨pb, _, rfl, SqL.of epb, by rw [List.length_map]; omega, fun pd ns' hq1 hq2 hpd => ?_⟩
    have ens := sorted_mids hq1 hq2
    subst ens
    have epd : (upd H16 pd (.lst (((mids n ls).map fun k : Nat => (k : Int)).map V.int))) pd = some (.lst ((mids n ls).map vN)) := by rw [upd_same, vN_int]
    have s23 := same_new hpd (.lst (((mids n ls).map fun k : Nat => (k : Int)).map V.int))
    generalize upd H16 pd (.lst (((mids n ls).map fun k : Nat => (k : Int)).map V.int)) = H17 at epd s23
    have epm := s23 _ _ (s22 _ _ epm)
    have epmI := epm
    rw [vN_int] at epmI
    have hmm : ((mids n ls).map vN).length = (mids n ls).length := List.length_map _
    refine ⟨_, rfl, _, rfl, pd, _, rfl, .inl (SqL.of epd), pm, _, _, rfl, epmI, by rw [List.length_map, hmm], by rw [hmm]; omega, fun H18 s24 => ⟨_, rfl, iteF ?_⟩⟩
    have hself : eqL ((mids n ls).map vN) ((mids n ls).map vN) = true := eqL_self (flat_vN _)
    refine ⟨_, rfl, _, rfl, pm, pd, _, _, rfl, rfl, SqL.of (s24 _ _ epm), SqL.of (s24 _ _ epd), flat_vN _, flat_vN _, false, (by rw [hself]; rfl), iteF ?_⟩
    have s25 := s21.trans (s22.trans (s23.trans s24))
    have Th := Th.up s25
    have Tr := Tr.up s25
    have B := B.up s25
    refine ⟨_, rfl, th, h1, ps, n, ls, rfl, Th, Fr, by omega, fun H19 s26 => ?_⟩
    refine ⟨_, rfl, _, _, _, _, rfl, TyOf.str _, (show PySem.W.kitOne K (.type "str") (.type "str") = some true from rfl), _, rfl, iteF ?_⟩
    refine ⟨_, rfl, _, rfl, rfl, _, rfl, iteNS (by rw [hffe]) ?_⟩
    refine ⟨_, rfl, _, rfl, th, h1, ps, n, ls, kr, rfl, Th.up s26, Fr, by omega, hkrl, fun pu H20 s27 hpu epu => ?_⟩
    have s28 := s26.trans s27
    have Th := Th.up s28
    have Tr := Tr.up s28
    have B := B.up s28
    have sAll := s17.trans (s20.trans (s25.trans s28))
    clear s17 s18 s19 s20 s21 s22 s23 s24 s25 s26 s27 s28 epm epmI epd epb hpm hpb hpd hself hmm
    obtain ⟨hal, ⟨rk, T⟩, fo⟩ := at_spec Fr hkrl
    generalize At n ls kr = up at hal T fo epu
    have hul : (up.map vO).length = n := by rw [List.length_map, hal]
    refine ⟨_, rfl, _, _, _, _, rfl, TyOf.lst epu, kitList K, _, rfl, iteF ?_⟩
    refine ⟨_, rfl, pu, _, rfl, .inl (SqL.of epu), _, rfl, rfl, _, rfl, iteNS (by rw [hul]) ?_⟩
    refine ⟨_, rfl, _, rfl, pu, _, _, _, rfl, rfl, SqL.of epu, at_map T.root, _, rfl, iteF ?_⟩
    refine ⟨_, rfl, _, rfl, by omega, by omega, ?_⟩
    rw [Int.toNat_natCast]
    have hbk : ∀ k, k < n → ∃ cb, bs[k]? = some cb ∧ H20 cb = some (.lst ((near ls k).map vN)) := fun k hk => by
      have hkb : k < bs.length := by rw [B.len]; exact hk
      exact ⟨_, List.getElem?_eq_getElem hkb, B.each k _ (List.getElem?_eq_getElem hkb)⟩
    have hupk : ∀ k, k < n → k ≠ kr → ∃ p, up[k]? = some (some p) ∧ p ∈ near ls k := fun k hk hkn => by
      cases z : up[k]? with
      | none => rw [List.getElem?_eq_none_iff] at z; omega
      | some o =>
        cases o with
        | none => exact absurd (T.only k z) hkn
        | some p => exact ⟨p, rfl, (fo.joined (by omega) p).mpr (.inr z)⟩
    refine for_range (lo := 0) (n := n) (fun i σ H21 => (∃ x0 x1 x3 x4 x11 x12 x13 o15 o16, σ = [x0, x1, some (.int ((n : Nat) : Int)), x3, x4, some (.ref tr), some (vT (ff n ls0)), some (vN kr), some (.ref t), some (.ref b), some (.ref th), x11, x12, x13, some (.ref pu), o15, o16]) ∧ Same H20 H21)
      ⟨⟨_, _, _, _, _, _, _, _, _, rfl⟩, Same.refl _⟩ ?_ ?_
    · rintro k σ H21 hk ⟨⟨x0, x1, x3, x4, x11, x12, x13, o15, o16, rfl⟩, s29⟩
      rw [Int.zero_add]
      by_cases hkn : k = kr
      · subst hkn
        refine ⟨_, rfl, _, rfl, rfl, _, rfl, iteNS rfl (iteF ?_)⟩
        exact ⟨_, rfl, _, rfl, rfl, _, rfl, iteNS rfl (iteF ⟨⟨_, _, _, _, _, _, _, _, _, rfl⟩, s29⟩)⟩
      · obtain ⟨p, hp, hpn⟩ := hupk k hk hkn
        obtain ⟨cb, hcb, ecb⟩ := hbk k hk
        have hz : ¬ V.int ((k : Nat) : Int) = vN kr := fun z => hkn (by have := V.int.inj z; omega)
        refine ⟨_, rfl, _, rfl, rfl, true, (by rw [decide_eq_false hz]; rfl), iteT ?_⟩
        refine ⟨_, rfl, _, rfl, pu, _, _, _, rfl, rfl, SqL.of (s29 _ _ epu), at_map hp, _, rfl, fun H22 s30 => ⟨_, rfl, iteF ?_⟩⟩
        have s31 := s29.trans s30
        refine ⟨_, rfl, _, rfl, rfl, true, (by rw [decide_eq_false hz]; rfl), iteT ?_⟩
        refine ⟨_, rfl, _, rfl, pu, _, _, _, rfl, rfl, SqL.of (s31 _ _ epu), at_map hp, _, rfl, _, rfl, b, _, _, _, rfl, rfl, SqL.of (s31 _ _ B.top), at_map hcb, cb, _, rfl, .inl (SqL.of (s31 _ _ ecb)), rfl, flat_vN _, false, ?_, iteF ⟨⟨_, _, _, _, _, _, _, _, _, rfl⟩, s31⟩⟩
        show V.bl (!inV (vN p) ((near ls k).map vN)) = _
        rw [inV_vN, decide_eq_true hpn]
        rfl
    rintro σ H21 ⟨⟨x0, x1, x3, x4, x11, x12, x13, o15, o16, rfl⟩, s29⟩
    obtain ⟨cr, hcr, ecr⟩ := hbk kr hkrl
    have ecr := s29 _ _ ecr
    have epu1 := s29 _ _ epu
    refine ⟨_, rfl, _, rfl, b, _, _, _, rfl, rfl, SqL.of (s29 _ _ B.top), at_map hcr, cr, rfl, ⟨_, SqL.of ecr⟩, ?_⟩
    refine comp_listF (K := K) (a := cr) (xs := (near ls kr).map vN) (fun D i ys τ H22 => (∃ o, τ = [o, some (vN kr), some (.ref pu)]) ∧ ys = [] ∧ Same H21 H22 ∧ H22 D = some (.lst ys))
      (fun D hD => ⟨⟨_, rfl⟩, rfl, same_new hD _, upd_same⟩) (fun D i ys τ H22 _ ⟨_, _, s30, _⟩ => SqL.of (s30 _ _ ecr)) ?_ ?_
    · rintro D i x ys τ H22 hx ⟨⟨o, rfl⟩, rfl, s30, eD⟩
      have hx' := (List.getElem?_eq_some_iff.mp hx).1
      obtain ⟨c, hci, rfl⟩ := of_map hx
      have hcn : c ∈ near ls kr := List.mem_of_getElem? hci
      have hck : up[c]? = some (some kr) := by
        rcases (fo.joined (show kr < up.length by omega) c).mp hcn with z | z
        · exact z
        · rw [T.root] at z; cases z
      dsimp only [gName]
      refine ⟨_, rfl, _, rfl, pu, _, _, _, rfl, rfl, SqL.of (s30 _ _ epu1), at_map hck, _, rfl, rfl, false, (by show V.bl (!decide (vO (some kr) = vN kr)) = _; rw [decide_eq_true (show vO (some kr) = vN kr from rfl)]; rfl), ?_⟩
      dsimp only
      rw [if_neg Bool.false_ne_true]
      exact Nx.mk hx' ⟨⟨_, rfl⟩, rfl, s30, eD⟩
    rintro D ys τ H22 ⟨_, rfl, s30, eD⟩
    refine ⟨D, _, rfl, .inl (SqL.of eD), _, _, rfl, rfl, false, rfl, iteF ?_⟩
    refine ⟨_, rfl, _, rfl, by omega, by omega, ?_⟩
    rw [Int.toNat_natCast]
    have s31 := s29.trans s30
    have epu2 := s31 _ _ epu
    refine for_range (lo := 0) (n := n) (fun i σ H23 => (∃ x0 x1 x3 x4 x11 x12 x13 o15 o16, σ = [x0, x1, some (.int ((n : Nat) : Int)), x3, x4, some (.ref tr), some (vT (ff n ls0)), some (vN kr), some (.ref t), some (.ref b), some (.ref th), x11, x12, x13, some (.ref pu), o15, o16]) ∧ Same H22 H23)
      ⟨⟨_, _, _, _, _, _, _, _, _, rfl⟩, Same.refl _⟩ ?_ ?_
    · rintro k σ H23 hk ⟨⟨x0, x1, x3, x4, x11, x12, x13, o15, o16, rfl⟩, s32⟩
      rw [Int.zero_add]
      obtain ⟨cb, hcb, ecb⟩ := hbk k hk
      have ecb := (s31.trans s32) _ _ ecb
      have Bt := (s31.trans s32) _ _ B.top
      have epu3 := s32 _ _ epu2
      obtain ⟨pb, hpb⟩ : ∃ pb : Nat → Bool, pb = fun c : Nat => decide (vO (up[c]?.getD none) = vN k) := ⟨_, rfl⟩
      have hpbt : ∀ c, c < up.length → (pb c = true ↔ up[c]? = some (some k)) := fun c hc => by
        rw [hpb]
        show decide _ = true ↔ _
        rw [decide_eq_true_iff, List.getElem?_eq_getElem hc, Option.getD_some]
        constructor
        · intro z
          cases z2 : up[c] with
          | none => rw [z2] at z; cases z
          | some j => rw [z2] at z; have := V.int.inj z; rw [show j = k by omega]
        · intro z
          rw [Option.some.inj z]
          rfl
      have hcount := kids_near T fo (show k < up.length by omega) pb hpbt
      have hnl : (near ls k).length ≤ 1000 := Nat.le_trans (near_len ls k) (by omega)
      refine ⟨_, rfl, _, rfl, b, _, _, _, rfl, rfl, SqL.of Bt, at_map hcb, cb, rfl, ⟨_, SqL.of ecb⟩, ?_⟩
      refine comp_listF (K := K) (a := cb) (xs := (near ls k).map vN) (fun D2 i ys τ H24 => (∃ o, τ = [o, some (vN k), some (.ref pu)]) ∧ ys = (((near ls k).take i).filter pb).map vN ∧ Same H23 H24 ∧ H23 D2 = none ∧ H24 D2 = some (.lst ys))
        (fun D2 hD2 => ⟨⟨_, rfl⟩, rfl, same_new hD2 _, hD2, upd_same⟩) (fun D2 i ys τ H24 _ ⟨_, _, s33, _⟩ => SqL.of (s33 _ _ ecb)) ?_ ?_
      · rintro D2 i x ys τ H24 hx ⟨⟨o, rfl⟩, rfl, s33, hD2, eD2⟩
        have hx' := (List.getElem?_eq_some_iff.mp hx).1
        obtain ⟨c, hci, rfl⟩ := of_map hx
        have hcn : c ∈ near ls k := List.mem_of_getElem? hci
        have hcl : c < n := (Fr.near_lt hcn).1
        have htk : (near ls k).take (i + 1) = (near ls k).take i ++ [c] := by rw [List.take_add_one, hci]; rfl
        have hfl : (((near ls k).take i).filter pb).length ≤ 1000 := by
          refine Nat.le_trans (List.length_filter_le _ _) ?_
          rw [List.length_take]
          omega
        have hcg : up[c]? = some (up[c]?.getD none) := by rw [List.getElem?_eq_getElem (show c < up.length by omega)]; rfl
        dsimp only [gName]
        refine ⟨_, rfl, _, rfl, pu, _, _, _, rfl, rfl, SqL.of (s33 _ _ epu3), at_map hcg, _, rfl, (by cases up[c]?.getD none <;> rfl), pb c, (by rw [hpb]), ?_⟩
        cases hpc : pb c with
        | true =>
          rw [if_pos rfl]
          refine ⟨_, rfl, eD2, smallt (by rw [List.length_map]; omega), Nx.mk hx' ⟨⟨_, rfl⟩, ?_, same_upd s33 hD2 _, hD2, upd_same⟩⟩
          rw [htk, List.filter_append, List.filter_cons_of_pos hpc, List.map_append]
          rfl
        | false =>
          rw [if_neg Bool.false_ne_true]
          refine Nx.mk hx' ⟨⟨_, rfl⟩, ?_, s33, hD2, eD2⟩
          rw [htk, List.filter_append, List.filter_cons_of_neg (by rw [hpc]; exact Bool.false_ne_true), List.filter_nil, List.append_nil]
      rintro D2 ys τ H24 ⟨_, rfl, s33, hD2, eD2⟩
      rw [List.length_map, List.take_length] at eD2
      refine ⟨_, rfl, D2, _, rfl, .inl (SqL.of eD2), _, rfl, _, rfl, b, _, _, _, rfl, rfl, SqL.of (s33 _ _ Bt), at_map hcb, cb, _, rfl, .inl (SqL.of (s33 _ _ ecb)), _, rfl, _, rfl, rfl, .inr ⟨_, rfl, _, _, rfl, rfl, rfl, _, rfl, iteNS ?_ ⟨⟨_, _, _, _, _, _, _, _, _, rfl⟩, s32.trans s33⟩⟩⟩
      show V.int ((((((near ls k).filter pb).map vN).length : Nat)) : Int) = V.int (((((near ls k).map vN).length : Nat) : Int) - (if (!decide (V.int ((k : Nat) : Int) = vN kr)) = true then 1 else 0))
      rw [List.length_map, List.length_map, hcount]
      by_cases hkn : k = kr
      · subst hkn
        rw [if_pos rfl, decide_eq_true (show V.int ((k : Nat) : Int) = vN k from rfl)]
        show V.int _ = V.int (_ - 0)
        congr 1
      · rw [if_neg hkn, decide_eq_false (show ¬ V.int ((k : Nat) : Int) = vN kr from fun z => hkn (by have := V.int.inj z; omega))]
        show V.int _ = V.int (_ - 1)
        congr 1
        omega
    rintro σ H23 ⟨⟨x0, x1, x3, x4, x11, x12, x13, o15, o16, rfl⟩, s32⟩
    have s34 := s31.trans s32
    refine ⟨_, rfl, _, rfl, th, h1, t, L, ps, ps, ((n : Nat) : Int), toL ls, rfl, Th.up s34, Tr.up s34, by rw [toL_len]; omega, fun H25 s35 => ⟨_, rfl, iteF ⟨⟨_, _, _, _, _, _, _, _, _, _, _, _, _, rfl⟩, sAll.trans (s34.trans s35)⟩⟩⟩
  · rintro σ H12 ⟨_, s17⟩
    exact q _
end
end K09


set_option Elab.async false
set_option linter.all false
set_option maxRecDepth 100000
set_option maxHeartbeats 4000000
namespace K09
open PySem L2 KM KD PyProof.Rows
theorem all_mk {l : PySem.W.OpenLaw} {w : World} {K : PySem.W.Frag} {h : Heap} {mg : Str → Option Value} {fa f1 f2 f3 f4 f5 f6 f7 f8 f9 f10 f11 f12 f13 f14 f15 f16 f17 f18 f19 f20 f21 f22 f23 f24 f25 f26 f27 f28 CNoTree : Addr} (X : K.In h) (G : h.Ns mainGlobals mg) (hfa : mg "law" = some (.ref fa))
    {od1 an1 od2 an2 od3 an3 od4 an4 od5 an5 od6 an6 od7 an7 od8 an8 od9 an9 od10 an10 od11 an11 od12 an12 od13 an13 od14 an14 od15 an15 od16 an16 od17 an17 od18 an18 od19 an19 od20 an20 od21 an21 od22 an22 od23 an23 od24 an24 od25 an25 od26 an26 od27 an27 od28 an28 : Option Addr} {sl1 sl2 sl3 sl4 sl5 sl6 sl7 sl8 sl9 sl10 sl11 sl12 sl13 sl14 sl15 sl16 sl17 sl18 sl19 sl20 sl21 sl22 sl23 sl24 sl25 sl26 sl27 sl28 : Array (Option Value)} {oc1 kV1 dc1 pm1 cd1 ct1 oc2 kV2 dc2 pm2 cd2 ct2 oc3 kV3 dc3 pm3 cd3 ct3 oc4 kV4 dc4 pm4 cd4 ct4 oc5 kV5 dc5 pm5 cd5 ct5 oc6 kV6 dc6 pm6 cd6 ct6 oc7 kV7 dc7 pm7 cd7 ct7 oc8 kV8 dc8 pm8 cd8 ct8 oc9 kV9 dc9 pm9 cd9 ct9 oc10 kV10 dc10 pm10 cd10 ct10 oc11 kV11 dc11 pm11 cd11 ct11 oc12 kV12 dc12 pm12 cd12 ct12 oc13 kV13 dc13 pm13 cd13 ct13 oc14 kV14 dc14 pm14 cd14 ct14 oc15 kV15 dc15 pm15 cd15 ct15 oc16 kV16 dc16 pm16 cd16 ct16 oc17 kV17 dc17 pm17 cd17 ct17 oc18 kV18 dc18 pm18 cd18 ct18 oc19 kV19 dc19 pm19 cd19 ct19 oc20 kV20 dc20 pm20 cd20 ct20 oc21 kV21 dc21 pm21 cd21 ct21 oc22 kV22 dc22 pm22 cd22 ct22 oc23 kV23 dc23 pm23 cd23 ct23 oc24 kV24 dc24 pm24 cd24 ct24 oc25 kV25 dc25 pm25 cd25 ct25 oc26 kV26 dc26 pm26 cd26 ct26 oc27 kV27 dc27 pm27 cd27 ct27 oc28 kV28 dc28 pm28 cd28 ct28 : Value}
    {dT2 : Addr} {tC2 : Value} {tD2 : Option Addr} {tN2 : Nat} {tS2 : Array (Option Value)}
    {tkMARK : Tok}
    (qNoTree : PySem.W.nsIn K mainGlobals "NoTree" = some (some (.ref CNoTree)))
    (qMARK : PySem.W.nsIn K mainGlobals "MARK" = some (some (.str (Str.ofString "*") tkMARK)))
    (nt1 : PySem.W.excIn K CNoTree [.type "ValueError", .type "Exception", .type "BaseException", .type "object"] "ValueError.__new__" = true)
    (nt2 : PySem.W.findIn K (.ref CNoTree) "__getattribute__" = some (some (.builtin "BaseException.__getattribute__")))
    (nt3 : PySem.W.findIn K (.ref CNoTree) "__getattr__" = some none)
    (nt4 : PySem.W.hasDictIn K CNoTree = true)
    (nt5 : PySem.W.findIn K (.ref CNoTree) "__class__" = some (some (.builtin "object.__class__")))
    (nt6 : PySem.W.specialIn K (.builtin "object.__class__") "__get__" = some (some (.builtin "getset_descriptor.__get__")))
    (nt7 : PySem.W.takesIn K (.builtin "object.__class__") = some true)
    (nt8 : PySem.W.mroIn K CNoTree (.type "object") = some true)
    (nt9 : PySem.W.mroIn K CNoTree (.type "BaseException") = some true)
    (a1 : PySem.W.nsIn K mainGlobals "form_of" = some (some (.ref f1))) (l1 : K.lookup f1 = some ⟨oc1, od1, .func (PySem.W.fnOf "form_of" "form_of" (defArgs sForm) (defBody sForm) (defScope sForm) .none kV1 dc1 pm1 an1 cd1 ct1), sl1⟩) (c1 : PySem.W.codeIn K cd1 "form_of" = true) (k1 : PySem.W.keepIn K (.ref f1) = true)
    (a2 : PySem.W.nsIn K mainGlobals "knot_forms" = some (some (.ref f2))) (l2 : K.lookup f2 = some ⟨oc2, od2, .func (PySem.W.fnOf "knot_forms" "knot_forms" (defArgs sKnotForms) (defBody sKnotForms) (defScope sKnotForms) (.ref dT2) kV2 dc2 pm2 an2 cd2 ct2), sl2⟩) (c2 : PySem.W.codeIn K cd2 "knot_forms" = true) (k2 : PySem.W.keepIn K (.ref f2) = true) (t2 : K.lookup dT2 = some ⟨tC2, tD2, .seq #[.none] tN2, tS2⟩)
    (a3 : PySem.W.nsIn K mainGlobals "form_over" = some (some (.ref f3))) (l3 : K.lookup f3 = some ⟨oc3, od3, .func (PySem.W.fnOf "form_over" "form_over" (defArgs sOver) (defBody sOver) (defScope sOver) .none kV3 dc3 pm3 an3 cd3 ct3), sl3⟩) (c3 : PySem.W.codeIn K cd3 "form_over" = true) (k3 : PySem.W.keepIn K (.ref f3) = true)
    (a4 : PySem.W.nsIn K mainGlobals "root_of" = some (some (.ref f4))) (l4 : K.lookup f4 = some ⟨oc4, od4, .func (PySem.W.fnOf "root_of" "root_of" (defArgs sRoot) (defBody sRoot) (defScope sRoot) .none kV4 dc4 pm4 an4 cd4 ct4), sl4⟩) (c4 : PySem.W.codeIn K cd4 "root_of" = true) (k4 : PySem.W.keepIn K (.ref f4) = true)
    (a5 : PySem.W.nsIn K mainGlobals "knots_under" = some (some (.ref f5))) (l5 : K.lookup f5 = some ⟨oc5, od5, .func (PySem.W.fnOf "knots_under" "knots_under" (defArgs sUnder) (defBody sUnder) (defScope sUnder) .none kV5 dc5 pm5 an5 cd5 ct5), sl5⟩) (c5 : PySem.W.codeIn K cd5 "knots_under" = true) (k5 : PySem.W.keepIn K (.ref f5) = true)
    (a6 : PySem.W.nsIn K mainGlobals "downward" = some (some (.ref f6))) (l6 : K.lookup f6 = some ⟨oc6, od6, .func (PySem.W.fnOf "downward" "downward" (defArgs sDown) (defBody sDown) (defScope sDown) .none kV6 dc6 pm6 an6 cd6 ct6), sl6⟩) (c6 : PySem.W.codeIn K cd6 "downward" = true) (k6 : PySem.W.keepIn K (.ref f6) = true)
    (a7 : PySem.W.nsIn K mainGlobals "middles" = some (some (.ref f7))) (l7 : K.lookup f7 = some ⟨oc7, od7, .func (PySem.W.fnOf "middles" "middles" (defArgs sMiddles) (defBody sMiddles) (defScope sMiddles) .none kV7 dc7 pm7 an7 cd7 ct7), sl7⟩) (c7 : PySem.W.codeIn K cd7 "middles" = true) (k7 : PySem.W.keepIn K (.ref f7) = true)
    (a8 : PySem.W.nsIn K mainGlobals "rooted_at" = some (some (.ref f8))) (l8 : K.lookup f8 = some ⟨oc8, od8, .func (PySem.W.fnOf "rooted_at" "rooted_at" (defArgs sRootedAt) (defBody sRootedAt) (defScope sRootedAt) .none kV8 dc8 pm8 an8 cd8 ct8), sl8⟩) (c8 : PySem.W.codeIn K cd8 "rooted_at" = true) (k8 : PySem.W.keepIn K (.ref f8) = true)
    (a9 : PySem.W.nsIn K mainGlobals "free_form" = some (some (.ref f9))) (l9 : K.lookup f9 = some ⟨oc9, od9, .func (PySem.W.fnOf "free_form" "free_form" (defArgs sFreeForm) (defBody sFreeForm) (defScope sFreeForm) .none kV9 dc9 pm9 an9 cd9 ct9), sl9⟩) (c9 : PySem.W.codeIn K cd9 "free_form" = true) (k9 : PySem.W.keepIn K (.ref f9) = true)
    (a10 : PySem.W.nsIn K mainGlobals "farness" = some (some (.ref f10))) (l10 : K.lookup f10 = some ⟨oc10, od10, .func (PySem.W.fnOf "farness" "farness" (defArgs sFarness) (defBody sFarness) (defScope sFarness) .none kV10 dc10 pm10 an10 cd10 ct10), sl10⟩) (c10 : PySem.W.codeIn K cd10 "farness" = true) (k10 : PySem.W.keepIn K (.ref f10) = true)
    (a11 : PySem.W.nsIn K mainGlobals "hung_up" = some (some (.ref f11))) (l11 : K.lookup f11 = some ⟨oc11, od11, .func (PySem.W.fnOf "hung_up" "hung_up" (defArgs sHungUp) (defBody sHungUp) (defScope sHungUp) .none kV11 dc11 pm11 an11 cd11 ct11), sl11⟩) (c11 : PySem.W.codeIn K cd11 "hung_up" = true) (k11 : PySem.W.keepIn K (.ref f11) = true)
    (a12 : PySem.W.nsIn K mainGlobals "walked" = some (some (.ref f12))) (l12 : K.lookup f12 = some ⟨oc12, od12, .func (PySem.W.fnOf "walked" "walked" (defArgs sWalked) (defBody sWalked) (defScope sWalked) .none kV12 dc12 pm12 an12 cd12 ct12), sl12⟩) (c12 : PySem.W.codeIn K cd12 "walked" = true) (k12 : PySem.W.keepIn K (.ref f12) = true)
    (a13 : PySem.W.nsIn K mainGlobals "knots_beside" = some (some (.ref f13))) (l13 : K.lookup f13 = some ⟨oc13, od13, .func (PySem.W.fnOf "knots_beside" "knots_beside" (defArgs sKnotsBeside) (defBody sKnotsBeside) (defScope sKnotsBeside) .none kV13 dc13 pm13 an13 cd13 ct13), sl13⟩) (c13 : PySem.W.codeIn K cd13 "knots_beside" = true) (k13 : PySem.W.keepIn K (.ref f13) = true)
    (a14 : PySem.W.nsIn K mainGlobals "_law_upto" = some (some (.ref f14))) (l14 : K.lookup f14 = some ⟨oc14, od14, .func (PySem.W.fnOf "_law_upto" "_law_upto" (defArgs sUpto) (defBody sUpto) (defScope sUpto) .none kV14 dc14 pm14 an14 cd14 ct14), sl14⟩) (c14 : PySem.W.codeIn K cd14 "_law_upto" = true) (k14 : PySem.W.keepIn K (.ref f14) = true)
    (a15 : PySem.W.nsIn K mainGlobals "_law_whole" = some (some (.ref f15))) (l15 : K.lookup f15 = some ⟨oc15, od15, .func (PySem.W.fnOf "_law_whole" "_law_whole" (defArgs sWhole) (defBody sWhole) (defScope sWhole) .none kV15 dc15 pm15 an15 cd15 ct15), sl15⟩) (c15 : PySem.W.codeIn K cd15 "_law_whole" = true) (k15 : PySem.W.keepIn K (.ref f15) = true)
    (a16 : PySem.W.nsIn K mainGlobals "_law_at" = some (some (.ref f16))) (l16 : K.lookup f16 = some ⟨oc16, od16, .func (PySem.W.fnOf "_law_at" "_law_at" (defArgs sAt) (defBody sAt) (defScope sAt) .none kV16 dc16 pm16 an16 cd16 ct16), sl16⟩) (c16 : PySem.W.codeIn K cd16 "_law_at" = true) (k16 : PySem.W.keepIn K (.ref f16) = true)
    (a17 : PySem.W.nsIn K mainGlobals "_law_rooted" = some (some (.ref f17))) (l17 : K.lookup f17 = some ⟨oc17, od17, .func (PySem.W.fnOf "_law_rooted" "_law_rooted" (defArgs sRooted) (defBody sRooted) (defScope sRooted) .none kV17 dc17 pm17 an17 cd17 ct17), sl17⟩) (c17 : PySem.W.codeIn K cd17 "_law_rooted" = true) (k17 : PySem.W.keepIn K (.ref f17) = true)
    (a18 : PySem.W.nsIn K mainGlobals "_law_names_by" = some (some (.ref f18))) (l18 : K.lookup f18 = some ⟨oc18, od18, .func (PySem.W.fnOf "_law_names_by" "_law_names_by" (defArgs sNames) (defBody sNames) (defScope sNames) .none kV18 dc18 pm18 an18 cd18 ct18), sl18⟩) (c18 : PySem.W.codeIn K cd18 "_law_names_by" = true) (k18 : PySem.W.keepIn K (.ref f18) = true)
    (a19 : PySem.W.nsIn K mainGlobals "_law_lines_of" = some (some (.ref f19))) (l19 : K.lookup f19 = some ⟨oc19, od19, .func (PySem.W.fnOf "_law_lines_of" "_law_lines_of" (defArgs sLinesOf) (defBody sLinesOf) (defScope sLinesOf) .none kV19 dc19 pm19 an19 cd19 ct19), sl19⟩) (c19 : PySem.W.codeIn K cd19 "_law_lines_of" = true) (k19 : PySem.W.keepIn K (.ref f19) = true)
    (a20 : PySem.W.nsIn K mainGlobals "_law_anew" = some (some (.ref f20))) (l20 : K.lookup f20 = some ⟨oc20, od20, .func (PySem.W.fnOf "_law_anew" "_law_anew" (defArgs sAnew) (defBody sAnew) (defScope sAnew) .none kV20 dc20 pm20 an20 cd20 ct20), sl20⟩) (c20 : PySem.W.codeIn K cd20 "_law_anew" = true) (k20 : PySem.W.keepIn K (.ref f20) = true)
    (a21 : PySem.W.nsIn K mainGlobals "_law_near_of" = some (some (.ref f21))) (l21 : K.lookup f21 = some ⟨oc21, od21, .func (PySem.W.fnOf "_law_near_of" "_law_near_of" (defArgs sNearOf) (defBody sNearOf) (defScope sNearOf) .none kV21 dc21 pm21 an21 cd21 ct21), sl21⟩) (c21 : PySem.W.codeIn K cd21 "_law_near_of" = true) (k21 : PySem.W.keepIn K (.ref f21) = true)
    (a22 : PySem.W.nsIn K mainGlobals "_law_branch" = some (some (.ref f22))) (l22 : K.lookup f22 = some ⟨oc22, od22, .func (PySem.W.fnOf "_law_branch" "_law_branch" (defArgs sBranch) (defBody sBranch) (defScope sBranch) .none kV22 dc22 pm22 an22 cd22 ct22), sl22⟩) (c22 : PySem.W.codeIn K cd22 "_law_branch" = true) (k22 : PySem.W.keepIn K (.ref f22) = true)
    (a23 : PySem.W.nsIn K mainGlobals "_law_farness_at" = some (some (.ref f23))) (l23 : K.lookup f23 = some ⟨oc23, od23, .func (PySem.W.fnOf "_law_farness_at" "_law_farness_at" (defArgs sFarnessAt) (defBody sFarnessAt) (defScope sFarnessAt) .none kV23 dc23 pm23 an23 cd23 ct23), sl23⟩) (c23 : PySem.W.codeIn K cd23 "_law_farness_at" = true) (k23 : PySem.W.keepIn K (.ref f23) = true)
    (a24 : PySem.W.nsIn K mainGlobals "_law_middles_by" = some (some (.ref f24))) (l24 : K.lookup f24 = some ⟨oc24, od24, .func (PySem.W.fnOf "_law_middles_by" "_law_middles_by" (defArgs sMiddlesBy) (defBody sMiddlesBy) (defScope sMiddlesBy) .none kV24 dc24 pm24 an24 cd24 ct24), sl24⟩) (c24 : PySem.W.codeIn K cd24 "_law_middles_by" = true) (k24 : PySem.W.keepIn K (.ref f24) = true)
    (a25 : PySem.W.nsIn K mainGlobals "_law_free_text" = some (some (.ref f25))) (l25 : K.lookup f25 = some ⟨oc25, od25, .func (PySem.W.fnOf "_law_free_text" "_law_free_text" (defArgs sFreeText) (defBody sFreeText) (defScope sFreeText) .none kV25 dc25 pm25 an25 cd25 ct25), sl25⟩) (c25 : PySem.W.codeIn K cd25 "_law_free_text" = true) (k25 : PySem.W.keepIn K (.ref f25) = true)
    (a26 : PySem.W.nsIn K mainGlobals "_law_are_knots" = some (some (.ref f26))) (l26 : K.lookup f26 = some ⟨oc26, od26, .func (PySem.W.fnOf "_law_are_knots" "_law_are_knots" (defArgs sAreKnots) (defBody sAreKnots) (defScope sAreKnots) .none kV26 dc26 pm26 an26 cd26 ct26), sl26⟩) (c26 : PySem.W.codeIn K cd26 "_law_are_knots" = true) (k26 : PySem.W.keepIn K (.ref f26) = true)
    (a27 : PySem.W.nsIn K mainGlobals "_law_kept_whole" = some (some (.ref f27))) (l27 : K.lookup f27 = some ⟨oc27, od27, .func (PySem.W.fnOf "_law_kept_whole" "_law_kept_whole" (defArgs sKeptWhole) (defBody sKeptWhole) (defScope sKeptWhole) .none kV27 dc27 pm27 an27 cd27 ct27), sl27⟩) (c27 : PySem.W.codeIn K cd27 "_law_kept_whole" = true) (k27 : PySem.W.keepIn K (.ref f27) = true)
    (a28 : PySem.W.nsIn K mainGlobals "law" = some (some (.ref f28))) (l28 : K.lookup f28 = some ⟨oc28, od28, .func (PySem.W.fnOf "law" "law" (defArgs sLaw) (defBody sLaw) (defScope sLaw) .none kV28 dc28 pm28 an28 cd28 ct28), sl28⟩) (c28 : PySem.W.codeIn K cd28 "law" = true) (k28 : PySem.W.keepIn K (.ref f28) = true)
    (z1 : PySem.W.nsIn K mainGlobals "len" = some none) (z2 : PySem.W.nsIn K mainGlobals "enumerate" = some none) (z3 : PySem.W.nsIn K mainGlobals "sorted" = some none) (z4 : PySem.W.nsIn K mainGlobals "reversed" = some none) (z5 : PySem.W.nsIn K mainGlobals "range" = some none) (z6 : PySem.W.nsIn K mainGlobals "isinstance" = some none) (z7 : PySem.W.nsIn K mainGlobals "int" = some none) (z8 : PySem.W.nsIn K mainGlobals "bool" = some none) (z9 : PySem.W.nsIn K mainGlobals "list" = some none) (z10 : PySem.W.nsIn K mainGlobals "min" = some none) (z11 : PySem.W.nsIn K mainGlobals "max" = some none) (z12 : PySem.W.nsIn K mainGlobals "tuple" = some none) (z13 : PySem.W.nsIn K mainGlobals "str" = some none) :
    ∃ fd : FuncData, (∀ (s : Shared) (v : Value), BindsTo s fd ⟨[v], []⟩ [("_law_script", v)]) ∧ ∀ base : Heap, K.In base → base.Ns mainGlobals mg → FnOk l.prog w K mg base CX0 65 fa fd ["_law_script"] (spLaw K) := by
  have e := hfa.symm.trans (PySem.W.mg_of X G a28)
  cases e
  have F_sForm := fun_mk (st := sForm) l1 c1 k1
  have b_sForm := F_sForm.binds (ps := ["above"]) fun _ _ _ _ _ _ us hl => match us, hl with | [_], _ => rfl
  have g_sForm := PySem.W.mg_of X G a1
  have k_sForm := k1
  have F_sKnotForms := funD_mk (st := sKnotForms) l2 c2 k2 t2
  have b_sKnotForms := F_sKnotForms.binds (ps := ["above", "marked"]) fun _ _ _ _ _ _ _ us hl => match us, hl with | [_, _], _ => ⟨_, rfl, rfl⟩
  have b1_sKnotForms := F_sKnotForms.binds1 (ps := ["above", "marked"]) fun _ _ _ _ _ _ _ us hl => match us, hl with | [_], _ => ⟨_, rfl, rfl⟩
  have g_sKnotForms := PySem.W.mg_of X G a2
  have k_sKnotForms := k2
  have F_sOver := fun_mk (st := sOver) l3 c3 k3
  have b_sOver := F_sOver.binds (ps := ["parts"]) fun _ _ _ _ _ _ us hl => match us, hl with | [_], _ => rfl
  have g_sOver := PySem.W.mg_of X G a3
  have k_sOver := k3
  have F_sRoot := fun_mk (st := sRoot) l4 c4 k4
  have b_sRoot := F_sRoot.binds (ps := ["above"]) fun _ _ _ _ _ _ us hl => match us, hl with | [_], _ => rfl
  have g_sRoot := PySem.W.mg_of X G a4
  have k_sRoot := k4
  have F_sUnder := fun_mk (st := sUnder) l5 c5 k5
  have b_sUnder := F_sUnder.binds (ps := ["above"]) fun _ _ _ _ _ _ us hl => match us, hl with | [_], _ => rfl
  have g_sUnder := PySem.W.mg_of X G a5
  have k_sUnder := k5
  have F_sDown := fun_mk (st := sDown) l6 c6 k6
  have b_sDown := F_sDown.binds (ps := ["root", "under"]) fun _ _ _ _ _ _ us hl => match us, hl with | [_, _], _ => rfl
  have g_sDown := PySem.W.mg_of X G a6
  have k_sDown := k6
  have F_sMiddles := fun_mk (st := sMiddles) l7 c7 k7
  have b_sMiddles := F_sMiddles.binds (ps := ["tree"]) fun _ _ _ _ _ _ us hl => match us, hl with | [_], _ => rfl
  have g_sMiddles := PySem.W.mg_of X G a7
  have k_sMiddles := k7
  have F_sRootedAt := fun_mk (st := sRootedAt) l8 c8 k8
  have b_sRootedAt := F_sRootedAt.binds (ps := ["tree", "knot"]) fun _ _ _ _ _ _ us hl => match us, hl with | [_, _], _ => rfl
  have g_sRootedAt := PySem.W.mg_of X G a8
  have k_sRootedAt := k8
  have F_sFreeForm := fun_mk (st := sFreeForm) l9 c9 k9
  have b_sFreeForm := F_sFreeForm.binds (ps := ["tree"]) fun _ _ _ _ _ _ us hl => match us, hl with | [_], _ => rfl
  have g_sFreeForm := PySem.W.mg_of X G a9
  have k_sFreeForm := k9
  have F_sFarness := fun_mk (st := sFarness) l10 c10 k10
  have b_sFarness := F_sFarness.binds (ps := ["beside", "knot"]) fun _ _ _ _ _ _ us hl => match us, hl with | [_, _], _ => rfl
  have g_sFarness := PySem.W.mg_of X G a10
  have k_sFarness := k10
  have F_sHungUp := fun_mk (st := sHungUp) l11 c11 k11
  have b_sHungUp := F_sHungUp.binds (ps := ["beside", "root"]) fun _ _ _ _ _ _ us hl => match us, hl with | [_, _], _ => rfl
  have g_sHungUp := PySem.W.mg_of X G a11
  have k_sHungUp := k11
  have F_sWalked := fun_mk (st := sWalked) l12 c12 k12
  have b_sWalked := F_sWalked.binds (ps := ["beside", "start"]) fun _ _ _ _ _ _ us hl => match us, hl with | [_, _], _ => rfl
  have g_sWalked := PySem.W.mg_of X G a12
  have k_sWalked := k12
  have F_sKnotsBeside := fun_mk (st := sKnotsBeside) l13 c13 k13
  have b_sKnotsBeside := F_sKnotsBeside.binds (ps := ["tree"]) fun _ _ _ _ _ _ us hl => match us, hl with | [_], _ => rfl
  have g_sKnotsBeside := PySem.W.mg_of X G a13
  have k_sKnotsBeside := k13
  have F_sUpto := fun_mk (st := sUpto) l14 c14 k14
  have b_sUpto := F_sUpto.binds (ps := ["_law_script", "_law_small", "_law_great"]) fun _ _ _ _ _ _ us hl => match us, hl with | [_, _, _], _ => rfl
  have g_sUpto := PySem.W.mg_of X G a14
  have k_sUpto := k14
  have F_sWhole := fun_mk (st := sWhole) l15 c15 k15
  have b_sWhole := F_sWhole.binds (ps := ["_law_found"]) fun _ _ _ _ _ _ us hl => match us, hl with | [_], _ => rfl
  have g_sWhole := PySem.W.mg_of X G a15
  have k_sWhole := k15
  have F_sAt := fun_mk (st := sAt) l16 c16 k16
  have b_sAt := F_sAt.binds (ps := ["_law_script", "_law_k"]) fun _ _ _ _ _ _ us hl => match us, hl with | [_, _], _ => rfl
  have g_sAt := PySem.W.mg_of X G a16
  have k_sAt := k16
  have F_sRooted := fun_mk (st := sRooted) l17 c17 k17
  have b_sRooted := F_sRooted.binds (ps := ["_law_cells"]) fun _ _ _ _ _ _ us hl => match us, hl with | [_], _ => rfl
  have g_sRooted := PySem.W.mg_of X G a17
  have k_sRooted := k17
  have F_sNames := fun_mk (st := sNames) l18 c18 k18
  have b_sNames := F_sNames.binds (ps := ["_law_cells", "_law_many"]) fun _ _ _ _ _ _ us hl => match us, hl with | [_, _], _ => rfl
  have g_sNames := PySem.W.mg_of X G a18
  have k_sNames := k18
  have F_sLinesOf := fun_mk (st := sLinesOf) l19 c19 k19
  have b_sLinesOf := F_sLinesOf.binds (ps := ["_law_above", "_law_cells"]) fun _ _ _ _ _ _ us hl => match us, hl with | [_, _], _ => rfl
  have g_sLinesOf := PySem.W.mg_of X G a19
  have k_sLinesOf := k19
  have F_sAnew := fun_mk (st := sAnew) l20 c20 k20
  have b_sAnew := F_sAnew.binds (ps := ["_law_lines", "_law_names"]) fun _ _ _ _ _ _ us hl => match us, hl with | [_, _], _ => rfl
  have g_sAnew := PySem.W.mg_of X G a20
  have k_sAnew := k20
  have F_sNearOf := fun_mk (st := sNearOf) l21 c21 k21
  have b_sNearOf := F_sNearOf.binds (ps := ["_law_many", "_law_lines"]) fun _ _ _ _ _ _ us hl => match us, hl with | [_, _], _ => rfl
  have g_sNearOf := PySem.W.mg_of X G a21
  have k_sNearOf := k21
  have F_sBranch := fun_mk (st := sBranch) l22 c22 k22
  have b_sBranch := F_sBranch.binds (ps := ["_law_near", "_law_knot", "_law_back"]) fun _ _ _ _ _ _ us hl => match us, hl with | [_, _, _], _ => rfl
  have g_sBranch := PySem.W.mg_of X G a22
  have k_sBranch := k22
  have F_sFarnessAt := fun_mk (st := sFarnessAt) l23 c23 k23
  have b_sFarnessAt := F_sFarnessAt.binds (ps := ["_law_near", "_law_start"]) fun _ _ _ _ _ _ us hl => match us, hl with | [_, _], _ => rfl
  have g_sFarnessAt := PySem.W.mg_of X G a23
  have k_sFarnessAt := k23
  have F_sMiddlesBy := fun_mk (st := sMiddlesBy) l24 c24 k24
  have b_sMiddlesBy := F_sMiddlesBy.binds (ps := ["_law_near"]) fun _ _ _ _ _ _ us hl => match us, hl with | [_], _ => rfl
  have g_sMiddlesBy := PySem.W.mg_of X G a24
  have k_sMiddlesBy := k24
  have F_sFreeText := fun_mk (st := sFreeText) l25 c25 k25
  have b_sFreeText := F_sFreeText.binds (ps := ["_law_near"]) fun _ _ _ _ _ _ us hl => match us, hl with | [_], _ => rfl
  have g_sFreeText := PySem.W.mg_of X G a25
  have k_sFreeText := k25
  have F_sAreKnots := fun_mk (st := sAreKnots) l26 c26 k26
  have b_sAreKnots := F_sAreKnots.binds (ps := ["_law_found", "_law_many"]) fun _ _ _ _ _ _ us hl => match us, hl with | [_, _], _ => rfl
  have g_sAreKnots := PySem.W.mg_of X G a26
  have k_sAreKnots := k26
  have F_sKeptWhole := fun_mk (st := sKeptWhole) l27 c27 k27
  have b_sKeptWhole := F_sKeptWhole.binds (ps := ["_law_handed", "_law_tree"]) fun _ _ _ _ _ _ us hl => match us, hl with | [_, _], _ => rfl
  have g_sKeptWhole := PySem.W.mg_of X G a27
  have k_sKeptWhole := k27
  have F_sLaw := fun_mk (st := sLaw) l28 c28 k28
  have m_NoTree := PySem.W.mg_of X G qNoTree
  have m_MARK := PySem.W.mg_of X G qMARK
  have m_len := PySem.W.mg_none_of X G z1
  have m_enumerate := PySem.W.mg_none_of X G z2
  have m_sorted := PySem.W.mg_none_of X G z3
  have m_reversed := PySem.W.mg_none_of X G z4
  have m_range := PySem.W.mg_none_of X G z5
  have m_isinstance := PySem.W.mg_none_of X G z6
  have m_int := PySem.W.mg_none_of X G z7
  have m_bool := PySem.W.mg_none_of X G z8
  have m_list := PySem.W.mg_none_of X G z9
  have m_min := PySem.W.mg_none_of X G z10
  have m_max := PySem.W.mg_none_of X G z11
  have m_tuple := PySem.W.mg_none_of X G z12
  have m_str := PySem.W.mg_none_of X G z13
  refine ⟨PySem.W.fnOf "law" "law" (defArgs sLaw) (defBody sLaw) (defScope sLaw) .none kV28 dc28 pm28 an28 cd28 ct28, fun s v => .of_eq rfl, fun base _ _ => ?_⟩
  have xnt : XC K CNoTree := ⟨nt1, nt2, nt3, nt4, nt5, nt6, nt7, nt8, nt9⟩
  have GO : Kit l.prog w K mg base 1 _ _ spOver _ _ := ⟨ok_over F_sOver m_sorted, b_sOver, k_sOver, g_sOver⟩
  have GRt : KitE l.prog w K mg base 1 _ _ (spRootX CNoTree) _ _ := ⟨ok_rootX F_sRoot m_enumerate m_len m_NoTree xnt, b_sRoot, k_sRoot, g_sRoot⟩
  have GU : KitE l.prog w K mg base 1 _ _ (spUnderX CNoTree) _ _ := ⟨ok_underX F_sUnder m_enumerate m_len m_NoTree xnt, b_sUnder, k_sUnder, g_sUnder⟩
  have GD : Kit l.prog w K mg base 1 _ _ spDownK _ _ := ⟨ok_downK F_sDown m_len, b_sDown, k_sDown, g_sDown⟩
  have GK : KitD l.prog w K mg base 2 _ _ (spKnots CNoTree) _ _ := ⟨ok_knots F_sKnotForms GO GRt GU GD m_len m_reversed m_NoTree xnt m_MARK, b_sKnotForms, b1_sKnotForms, k_sKnotForms, g_sKnotForms⟩
  have GFX : KitE l.prog w K mg base 3 _ _ (spFormX CNoTree) _ _ := ⟨ok_formX F_sForm GK GRt, b_sForm, k_sForm, g_sForm⟩
  have GBs : KitE l.prog w K mg base 1 _ _ (spBeside CNoTree) _ _ := ⟨ok_beside F_sKnotsBeside m_len m_range m_min m_max m_NoTree xnt, b_sKnotsBeside, k_sKnotsBeside, g_sKnotsBeside⟩
  have GWk : KitE l.prog w K mg base 1 _ _ (spWalked CNoTree) _ _ := ⟨ok_walked F_sWalked m_len m_NoTree xnt, b_sWalked, k_sWalked, g_sWalked⟩
  have GHu : KitE l.prog w K mg base 2 _ _ (spHung CNoTree) _ _ := ⟨ok_hung F_sHungUp GWk m_len m_range, b_sHungUp, k_sHungUp, g_sHungUp⟩
  have GRa : KitE l.prog w K mg base 3 _ _ (spRootedAt CNoTree) _ _ := ⟨ok_rootedAt F_sRootedAt GBs GHu, b_sRootedAt, k_sRootedAt, g_sRootedAt⟩
  have GFn : KitE l.prog w K mg base 2 _ _ (spFarness CNoTree) _ _ := ⟨ok_farness F_sFarness GWk m_max, b_sFarness, k_sFarness, g_sFarness⟩
  have GMi : KitE l.prog w K mg base 3 _ _ (spMiddles CNoTree) _ _ := ⟨ok_middles F_sMiddles GBs GFn m_len m_range m_min m_enumerate, b_sMiddles, k_sMiddles, g_sMiddles⟩
  have GFf : KitE l.prog w K mg base 4 _ _ (spFreeForm CNoTree) _ _ := ⟨ok_freeForm F_sFreeForm GMi GRa GFX GK m_len m_sorted, b_sFreeForm, k_sFreeForm, g_sFreeForm⟩
  have GMiq := GMi.quiet middles_quiet
  have GFfq := GFf.quiet freeform_quiet
  have GRaq := GRa.quiet rootedat_quiet
  have GP : Kit l.prog w K mg base 1 _ _ (spUpto K) _ _ := ⟨ok_upto F_sUpto m_len, b_sUpto, k_sUpto, g_sUpto⟩
  have GW : Kit l.prog w K mg base 1 _ _ spWhole _ _ := ⟨ok_whole F_sWhole m_isinstance m_int m_bool, b_sWhole, k_sWhole, g_sWhole⟩
  have GR : Kit l.prog w K mg base 1 _ _ spRooted _ _ := ⟨ok_rooted F_sRooted m_len m_range, b_sRooted, k_sRooted, g_sRooted⟩
  have GN : Kit l.prog w K mg base 1 _ _ spNames _ _ := ⟨ok_names F_sNames m_len m_range, b_sNames, k_sNames, g_sNames⟩
  have GA : Kit l.prog w K mg base 1 _ _ (spAt K) _ _ := ⟨ok_at F_sAt m_len, b_sAt, k_sAt, g_sAt⟩
  have GLo : Kit l.prog w K mg base 1 _ _ spLinesOf _ _ := ⟨ok_linesOf F_sLinesOf m_len m_range, b_sLinesOf, k_sLinesOf, g_sLinesOf⟩
  have GAw : Kit l.prog w K mg base 1 _ _ spAnew _ _ := ⟨ok_anew F_sAnew m_reversed, b_sAnew, k_sAnew, g_sAnew⟩
  have GNo : Kit l.prog w K mg base 1 _ _ spNearOf _ _ := ⟨ok_nearOf F_sNearOf m_range, b_sNearOf, k_sNearOf, g_sNearOf⟩
  have GBr : Kit l.prog w K mg base 63 _ _ (spBranch 63) _ _ := ⟨branch_all F_sBranch b_sBranch g_sBranch m_sorted 63, b_sBranch, k_sBranch, g_sBranch⟩
  have GFat : Kit l.prog w K mg base 1 _ _ spFarAt _ _ := ⟨ok_farAt F_sFarnessAt m_max, b_sFarnessAt, k_sFarnessAt, g_sFarnessAt⟩
  have GMb : Kit l.prog w K mg base 2 _ _ spMidsBy _ _ := ⟨ok_midsBy F_sMiddlesBy GFat m_len m_range m_min, b_sMiddlesBy, k_sMiddlesBy, g_sMiddlesBy⟩
  have GFt : Kit l.prog w K mg base 64 _ _ spFreeText _ _ := ⟨ok_freeText F_sFreeText GMb GBr m_len m_sorted, b_sFreeText, k_sFreeText, g_sFreeText⟩
  have GAk : Kit l.prog w K mg base 2 _ _ spAreKnotsI _ _ := ⟨ok_areKnotsI F_sAreKnots GW m_len m_isinstance m_list, b_sAreKnots, k_sAreKnots, g_sAreKnots⟩
  have GKp : Kit l.prog w K mg base 3 _ _ spKept _ _ := ⟨ok_kept F_sKeptWhole GW GAk m_len m_isinstance m_list m_tuple, b_sKeptWhole, k_sKeptWhole, g_sKeptWhole⟩
  exact ok_law F_sLaw GMiq GFfq GRaq GP GW GA GR GN GLo GAw GNo GMb GFt GAk GKp m_len m_list m_range m_sorted m_isinstance m_str m_int
theorem walk {l : PySem.W.OpenLaw} {q : Program} {loose : List Str} {XP : (Str → Option Value) → Heap → Prop} {YP : World → Heap → Prop} {d : DefRec} {K : Params → PySem.W.Frag} (hn : l.most = some 63) (hdf : d.params.defaults = [])
    (hY : ∀ (w : World) (h : Heap), YP w h → (K w.params).In h)
    (F : ∀ (w : World) (mg : Str → Option Value) (fa : Addr) (h : Heap), (K w.params).In h → h.Ns mainGlobals mg → mg d.name = some (.ref fa) →
      ∃ fd : FuncData, (∀ (s : Shared) (u : Value), BindsTo s fd ⟨[u], []⟩ [("_law_script", u)]) ∧ ∀ base : Heap, (K w.params).In base → base.Ns mainGlobals mg → FnOk l.prog w (K w.params) mg base CX0 65 fa fd ["_law_script"] (spLaw (K w.params))) :
    PySem.W.WalkO q loose XP YP l.row.toRowW d [] (fun f vs => PySem.call f vs) :=
  L2.walk_of (n := 63) (k := 65) (x := "_law_script") (CX := fun w => CX0) (sp := fun w => spLaw (K w.params)) hn (by decide) hdf ⟨rfl, by decide, by decide⟩ hY F (fun _ _ a ns hl _ hS => ⟨a, ns, rfl, hS, hl, fun _ => rfl⟩) fun _ _ _ _ _ z => z
end K09
open PySem PySem.W PyProof.Rows
set_option maxRecDepth 100000 in
set_option maxHeartbeats 0 in
theorem PySem.Challenge.cw_shapekin_k09_whole_free_forms_holds : PySem.Challenge.rw_shapekin_k09_whole_free_forms.Holds := by
  w_on; o_law; k_head; (case hw => w_witness2)
  k_fill
  refine K09.walk (l := PySem.Challenge.rw_shapekin_k09_whole_free_forms) rfl rfl (fun w h Y => PySem.W.kIn_of Y) ?F
  case F =>
    intro w mg fa h KX G hmg
    refine' K09.all_mk KX G hmg ?qNoTree ?qMARK ?nt1 ?nt2 ?nt3 ?nt4 ?nt5 ?nt6 ?nt7 ?nt8 ?nt9 ?a1 ?l1 ?c1 ?k1 ?a2 ?l2 ?c2 ?k2 ?t2 ?a3 ?l3 ?c3 ?k3 ?a4 ?l4 ?c4 ?k4 ?a5 ?l5 ?c5 ?k5 ?a6 ?l6 ?c6 ?k6 ?a7 ?l7 ?c7 ?k7 ?a8 ?l8 ?c8 ?k8 ?a9 ?l9 ?c9 ?k9 ?a10 ?l10 ?c10 ?k10 ?a11 ?l11 ?c11 ?k11 ?a12 ?l12 ?c12 ?k12 ?a13 ?l13 ?c13 ?k13 ?a14 ?l14 ?c14 ?k14 ?a15 ?l15 ?c15 ?k15 ?a16 ?l16 ?c16 ?k16 ?a17 ?l17 ?c17 ?k17 ?a18 ?l18 ?c18 ?k18 ?a19 ?l19 ?c19 ?k19 ?a20 ?l20 ?c20 ?k20 ?a21 ?l21 ?c21 ?k21 ?a22 ?l22 ?c22 ?k22 ?a23 ?l23 ?c23 ?k23 ?a24 ?l24 ?c24 ?k24 ?a25 ?l25 ?c25 ?k25 ?a26 ?l26 ?c26 ?k26 ?a27 ?l27 ?c27 ?k27 ?a28 ?l28 ?c28 ?k28 ?z1 ?z2 ?z3 ?z4 ?z5 ?z6 ?z7 ?z8 ?z9 ?z10 ?z11 ?z12 ?z13
    (case qNoTree => k_is)
    (case qMARK => k_is)
    (case nt1 => first | k_is | k_exc | kit_is | kts_exm)
    (case nt2 => first | k_is | k_exc | kit_is | kts_exm)
    (case nt3 => first | k_is | k_exc | kit_is | kts_exm)
    (case nt4 => first | k_is | k_exc | kit_is | kts_exm)
    (case nt5 => first | k_is | k_exc | kit_is | kts_exm)
    (case nt6 => first | k_is | k_exc | kit_is | kts_exm)
    (case nt7 => first | k_is | k_exc | kit_is | kts_exm)
    (case nt8 => first | k_is | k_exc | kit_is | kts_exm)
    (case nt9 => first | k_is | k_exc | kit_is | kts_exm)
    (case a1 => k_is)
    (case l1 => k_is)
    (case c1 => k_is)
    (case k1 => k_is)
    (case a2 => k_is)
    (case l2 => k_is)
    (case c2 => k_is)
    (case k2 => k_is)
    (case t2 => k_is)
    (case a3 => k_is)
    (case l3 => k_is)
    (case c3 => k_is)
    (case k3 => k_is)
    (case a4 => k_is)
    (case l4 => k_is)
    (case c4 => k_is)
    (case k4 => k_is)
    (case a5 => k_is)
    (case l5 => k_is)
    (case c5 => k_is)
    (case k5 => k_is)
    (case a6 => k_is)
    (case l6 => k_is)
    (case c6 => k_is)
    (case k6 => k_is)
    (case a7 => k_is)
    (case l7 => k_is)
    (case c7 => k_is)
    (case k7 => k_is)
    (case a8 => k_is)
    (case l8 => k_is)
    (case c8 => k_is)
    (case k8 => k_is)
    (case a9 => k_is)
    (case l9 => k_is)
    (case c9 => k_is)
    (case k9 => k_is)
    (case a10 => k_is)
    (case l10 => k_is)
    (case c10 => k_is)
    (case k10 => k_is)
    (case a11 => k_is)
    (case l11 => k_is)
    (case c11 => k_is)
    (case k11 => k_is)
    (case a12 => k_is)
    (case l12 => k_is)
    (case c12 => k_is)
    (case k12 => k_is)
    (case a13 => k_is)
    (case l13 => k_is)
    (case c13 => k_is)
    (case k13 => k_is)
    (case a14 => k_is)
    (case l14 => k_is)
    (case c14 => k_is)
    (case k14 => k_is)
    (case a15 => k_is)
    (case l15 => k_is)
    (case c15 => k_is)
    (case k15 => k_is)
    (case a16 => k_is)
    (case l16 => k_is)
    (case c16 => k_is)
    (case k16 => k_is)
    (case a17 => k_is)
    (case l17 => k_is)
    (case c17 => k_is)
    (case k17 => k_is)
    (case a18 => k_is)
    (case l18 => k_is)
    (case c18 => k_is)
    (case k18 => k_is)
    (case a19 => k_is)
    (case l19 => k_is)
    (case c19 => k_is)
    (case k19 => k_is)
    (case a20 => k_is)
    (case l20 => k_is)
    (case c20 => k_is)
    (case k20 => k_is)
    (case a21 => k_is)
    (case l21 => k_is)
    (case c21 => k_is)
    (case k21 => k_is)
    (case a22 => k_is)
    (case l22 => k_is)
    (case c22 => k_is)
    (case k22 => k_is)
    (case a23 => k_is)
    (case l23 => k_is)
    (case c23 => k_is)
    (case k23 => k_is)
    (case a24 => k_is)
    (case l24 => k_is)
    (case c24 => k_is)
    (case k24 => k_is)
    (case a25 => k_is)
    (case l25 => k_is)
    (case c25 => k_is)
    (case k25 => k_is)
    (case a26 => k_is)
    (case l26 => k_is)
    (case c26 => k_is)
    (case k26 => k_is)
    (case a27 => k_is)
    (case l27 => k_is)
    (case c27 => k_is)
    (case k27 => k_is)
    (case a28 => k_is)
    (case l28 => k_is)
    (case c28 => k_is)
    (case k28 => k_is)
    (case z1 => k_is)
    (case z2 => k_is)
    (case z3 => k_is)
    (case z4 => k_is)
    (case z5 => k_is)
    (case z6 => k_is)
    (case z7 => k_is)
    (case z8 => k_is)
    (case z9 => k_is)
    (case z10 => k_is)
    (case z11 => k_is)
    (case z12 => k_is)
    (case z13 => k_is)
#print axioms PySem.Challenge.cw_shapekin_k09_whole_free_forms_holds

