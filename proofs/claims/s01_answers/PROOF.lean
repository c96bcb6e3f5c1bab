import PyProof.Rows.All
import Wide.All
import OpenK.AllK
import Wide.FinOn
import PyProof.EqAt
import PyProof.EqKinds
import PyProof.TupleCall
import KE.BitLaws
import Open.SpecLaws
import KE.OsHead
import KE.OsGo
import PySem.Challenge.RW_marblegates_s01_answers
set_option Elab.async false
set_option linter.all false
set_option maxRecDepth 100000
/-! THE HAND LAYER, for ints, bools, texts, own classes, lists, tuples, dicts, comprehensions, walks over dicts, enumerate, zip, reversed, texts, calls, loops. Paste it whole ahead of your own text; what your proof does not reach may be deleted. -/
namespace L2
open PySem PySem.Spec PyProof.Rows

/-- a key: an int or a str -/
abbrev Key := Sum Int Str
def keyIs : Key → Value → Bool
  | .inl k, v => Value.isInt k v
  | .inr x, v => Value.isStrOf x v
def keyH (w : World) : Key → Int
  | .inl k => hashInt k
  | .inr x => hashStr w x
theorem keyIs_shape : ∀ {k : Key} {v : Value}, keyIs k v = true → (∃ i t, k = Sum.inl i ∧ v = Value.int i t) ∨ (∃ x t, k = Sum.inr x ∧ v = Value.str x t)
  | .inl i, v, h => by
    obtain ⟨t, e⟩ := Value.isInt_shape (k := i) (v := v) h
    exact .inl ⟨i, t, rfl, e⟩
  | .inr x, v, h => by
    obtain ⟨t, e⟩ := Value.isStrOf_shape (x := x) (v := v) h
    exact .inr ⟨x, t, rfl, e⟩
theorem key_ll (a b : Int) : decide ((Sum.inl a : Key) = Sum.inl b) = (a == b) := by
  by_cases e : a = b
  · subst e; simp
  · have h : ¬ (Sum.inl a : Key) = Sum.inl b := fun q => e (Sum.inl.inj q)
    rw [decide_eq_false h]
    exact (beq_eq_false_iff_ne.mpr e).symm
theorem key_rr (a b : Str) : decide ((Sum.inr a : Key) = Sum.inr b) = decide (a = b) := by
  by_cases e : a = b
  · subst e; simp
  · have h : ¬ (Sum.inr a : Key) = Sum.inr b := fun q => e (Sum.inr.inj q)
    rw [decide_eq_false h, decide_eq_false e]
theorem key_lr (a : Int) (b : Str) : decide ((Sum.inl a : Key) = Sum.inr b) = false := decide_eq_false (fun q => nomatch q)
theorem key_rl (a : Str) (b : Int) : decide ((Sum.inr a : Key) = Sum.inl b) = false := decide_eq_false (fun q => nomatch q)

def mixKind (prog : Program) (w : World) : PySem.KeyKind prog w Key where
  is := keyIs
  hash := keyH w
  inj := fun v a b ha hb => by
    rcases keyIs_shape ha with ⟨i, t, rfl, rfl⟩ | ⟨x, t, rfl, rfl⟩
    · rcases keyIs_shape hb with ⟨j, u, rfl, e⟩ | ⟨y, u, rfl, e⟩
      · injection e with e1 _; rw [e1]
      · exact nomatch e
    · rcases keyIs_shape hb with ⟨j, u, rfl, e⟩ | ⟨y, u, rfl, e⟩
      · exact nomatch e
      · injection e with e1 _; rw [e1]
  byValue := fun k v h => by
    rcases keyIs_shape h with ⟨i, t, rfl, rfl⟩ | ⟨x, t, rfl, rfl⟩ <;> rfl
  pyHash := fun hv h => by
    rcases keyIs_shape hv with ⟨i, t, rfl, rfl⟩ | ⟨x, t, rfl, rfl⟩
    · exact wpAny_pyHash_int h
    · exact wpAny_pyHash_str h
  eqBool := fun hu hv h => by
    rcases keyIs_shape hu with ⟨i, t, rfl, rfl⟩ | ⟨x, t, rfl, rfl⟩
    · rcases keyIs_shape hv with ⟨j, u, rfl, rfl⟩ | ⟨y, u, rfl, rfl⟩
      · rw [key_ll] at h; exact wpAny_eqBool_int h
      · rw [key_lr] at h; exact SeqAt.EqAt.int_str i t y u _ _ _ _ h
    · rcases keyIs_shape hv with ⟨j, u, rfl, rfl⟩ | ⟨y, u, rfl, rfl⟩
      · rw [key_rl] at h; exact SeqAt.EqAt.str_int x t j u _ _ _ _ h
      · rw [key_rr] at h; exact wpAny_eqBool_str h
  «strs» := fun k x t v h => by
    rcases keyIs_shape h with ⟨i, u, rfl, e⟩ | ⟨y, u, rfl, e⟩
    · exact nomatch e
    · injection e with e1 _
      subst e1
      cases v <;> rfl

end L2

namespace L2
open PySem PySem.Spec PyProof.Rows

/-- a value, without the heap -/
inductive V where
  | non | bl (b : Bool) | int (i : Int) | str (x : Str) | byt (b : Array UInt8) | flt (b : UInt64) | ref (a : Addr) | ty (n : String)
  deriving DecidableEq

def RelV : V → Value → Prop
  | .non, u => u = Value.none
  | .bl b, u => u = Value.bool b
  | .int i, u => ∃ t, u = Value.int i t
  | .str x, u => ∃ t, u = Value.str x t
  | .byt b, u => ∃ t, u = Value.bytes b t
  | .flt b, u => ∃ t, u = Value.float b t
  | .ref a, u => u = Value.ref a
  | .ty n, u => u = Value.type n

abbrev Vals : List V → List Value → Prop := Paired RelV
theorem Vals.length {xs : List V} {us : List Value} (r : Vals xs us) : xs.length = us.length := Paired.length r
theorem Vals.get : ∀ {xs : List V} {us : List Value} {i : Nat} {x : V}, Vals xs us → xs[i]? = some x → ∃ u, us[i]? = some u ∧ RelV x u
  | _, _, _, _, .nil, e => by simp at e
  | _, _, 0, _, .cons r _, e => by simp at e; subst e; exact ⟨_, rfl, r⟩
  | _, _, i + 1, x, .cons _ t, e => by
    obtain ⟨u, h1, h2⟩ := Vals.get (i := i) (x := x) t (by simpa using e)
    exact ⟨u, by simpa using h1, h2⟩
theorem Vals.set {x : V} {u : Value} (r : RelV x u) : ∀ {xs : List V} {us : List Value} (i : Nat), Vals xs us → Vals (xs.set i x) (us.set i u)
  | _, _, _, .nil => .nil
  | _, _, 0, .cons _ t => .cons r t
  | _, _, i + 1, .cons q t => .cons q (Vals.set r i t)
theorem Vals.append : ∀ {xs ys : List V} {us ws : List Value}, Vals xs us → Vals ys ws → Vals (xs ++ ys) (us ++ ws)
  | _, _, _, _, .nil, s => s
  | _, _, _, _, .cons r t, s => .cons r (Vals.append t s)
theorem Vals.take : ∀ {xs : List V} {us : List Value} (n : Nat), Vals xs us → Vals (xs.take n) (us.take n)
  | _, _, 0, _ => .nil
  | _, _, _ + 1, .nil => .nil
  | _, _, n + 1, .cons r t => .cons r (Vals.take n t)
theorem Vals.drop : ∀ {xs : List V} {us : List Value} (n : Nat), Vals xs us → Vals (xs.drop n) (us.drop n)
  | _, _, 0, r => r
  | _, _, _ + 1, .nil => .nil
  | _, _, n + 1, .cons _ t => Vals.drop n t
def RelO : Option V → Option Value → Prop
  | some v, some u => RelV v u
  | none, none => True
  | _, _ => False
def KV {κ : Type} : List (κ × V) → List (κ × Value) → Prop := Paired fun (p : κ × V) (q : κ × Value) => p.1 = q.1 ∧ RelV p.2 q.2

/-- a key of a dict (00_mix): an int or a text -/
def kV : Key → V
  | .inl i => .int i
  | .inr x => .str x

/-- what stands at a tracked address -/
inductive HO where
  /-- a list -/
  | lst (xs : List V)
  /-- a tuple (never changes) -/
  | tup (xs : List V)
  /-- a dict whose keys are ints and texts; one whose keys are tuples of ints and texts (the empty one is both) -/
  | dK (kvs : List (Key × V)) | dT (kvs : List (List Key × V))
  /-- a set of ints: its members, its size -/
  | set (S : Int → Bool) (n : Nat)
  /-- an instance of the class at C, its dict at dx, its attributes -/
  | ins (C dx : Addr) (fs : List (Str × V))
  /-- the dict of the instance at x -/
  | own (x : Addr)
  /-- the dict of an exception -/
  | xd (fs : List (Str × V))
  /-- a bound method, f of x -/
  | met (f x : Addr)
  /-- a range object lo, lo + 1, .. below hi -/
  | rng (lo hi : Int)
  /-- a thing that is known to the object (the script; a dict while a loop walks it): read, never written while it is so -/
  | frz (o : Obj) (u : HO)
  /-- a code object's table -/
  | tbl (ps : Array Value)
  /-- any other thing, by what is true of its one object (a def of one's own: SetO a S n := HO.ext fun h => ..) -/
  | ext (φ : Heap → Prop)

abbrev Hp := Addr → Option HO
def upd (H : Hp) (a : Addr) (o : HO) : Hp := fun b => if b = a then some o else H b
theorem upd_same {H : Hp} {a : Addr} {o : HO} : upd H a o a = some o := by unfold upd; rw [if_pos rfl]
theorem upd_ne {H : Hp} {a b : Addr} {o : HO} (h : b ≠ a) : upd H a o b = H b := by unfold upd; rw [if_neg h]
/-- two objects of different content stand apart -/
theorem ne_of {H : Hp} {a b : Addr} {o u : HO} (h : H a = some o) (h' : H b = some u) (d : o ≠ u) : a ≠ b := by
  intro e; subst e; rw [h] at h'; exact d (Option.some.inj h')
theorem ne_of_none {H : Hp} {a b : Addr} {o : HO} (h : H a = some o) (h' : H b = none) : a ≠ b := by
  intro e; subst e; rw [h] at h'; cases h'

section
variable (P : Program) (w : World)
def ObjOk (H : Hp) (h : Heap) (a : Addr) : HO → Prop
  | .lst xs => xs.length ≤ sizeLine ∧ ∃ (its : List Value) (n : Nat), Vals xs its ∧ h.get? a = some { cls := .type "list", data := .seq its.toArray n }
  | .tup xs => xs.length ≤ sizeLine ∧ ∃ its : List Value, Vals xs its ∧ IsTup h a its.toArray
  | .dK kvs => kvs.length ≤ sizeLine ∧ (a == sysModules) = false ∧ ∃ vs, KV kvs vs ∧ h.DictOf (mixKind P w) a vs
  | .dT kvs => kvs.length ≤ sizeLine ∧ (a == sysModules) = false ∧ ∃ xs : List (List Key × Addr × Value),
      Paired (fun (p : List Key × V) (q : List Key × Addr × Value) => p.1 = q.1 ∧ H q.2.1 = some (.tup (p.1.map kV)) ∧ RelV p.2 q.2.2) kvs xs ∧
      ∃ o es ep, h.get? a = some o ∧ o.ExactDict ∧ o.data = .dict es ep ∧ es.toList = xs.map (entryOfKey (tupleKind (mixKind P w))) ∧ (xs.map (·.1)).Nodup
  | .set S n => h.SetOf (intKind P w) a S n
  | .ins C dx fs => H dx = some (.own a) ∧ fs.length ≤ 1000 ∧ dx ≠ a ∧ h.get? a = some (PySem.W.instObj C dx) ∧
      ∃ mA, h.Ns1 dx mA ∧ (∀ f, RelO (fs.lookup f) (mA f)) ∧ PySem.Within mA (fs.map (·.1))
  | .own _ => ∃ o, h.get? a = some o
  | .xd fs => ∃ mA, h.Ns1 a mA ∧ ∀ f, RelO (fs.lookup f) (mA f)
  | .rng lo hi => ∃ t u v, h.get? a = some { cls := .type "range", data := .fields #[.int lo t, .int hi u, .int 1 v] }
  | .frz o u => h.get? a = some o ∧ ObjOk H h a u
  | .tbl ps => h.get? a = some { cls := .none, data := .fields ps }
  | .met f x => h.get? a = some (PySem.W.methodObj (.ref f) (.ref x))
  | .ext φ => φ h ∧ (∃ o, h.get? a = some o) ∧ ∀ h1 h2 : Heap, φ h1 → (∀ o, h1.get? a = some o → h2.get? a = some o) → φ h2
/-- the abstract heap is held -/
def HOk (H : Hp) (h : Heap) : Prop := ∀ a o, H a = some o → ObjOk P w H h a o
end

section
variable {P : Program} {w : World} {H H' : Hp} {h h' : Heap} {a : Addr} {o : HO}
theorem ObjOk.lt (x : ObjOk P w H h a o) : a < h.objs.size := by
  cases o with
  | lst xs => obtain ⟨_, _, _, _, e⟩ := x; exact Heap.lt_size e
  | tup xs => obtain ⟨_, _, _, p⟩ := x; exact p.lt
  | dK kvs => obtain ⟨_, _, _, _, o, _, _, e, _⟩ := x; exact Heap.lt_size e
  | dT kvs => obtain ⟨_, _, _, _, o, _, _, e, _⟩ := x; exact Heap.lt_size e
  | set S n => obtain ⟨o, _, _, _, e, _⟩ := x; exact Heap.lt_size e
  | ins C dx fs => obtain ⟨_, _, _, e, _⟩ := x; exact Heap.lt_size e
  | own y => obtain ⟨_, e⟩ := x; exact Heap.lt_size e
  | xd fs => obtain ⟨_, ⟨_, _, _, e, _⟩, _⟩ := x; exact Heap.lt_size e
  | rng lo hi => obtain ⟨_, _, _, e⟩ := x; exact Heap.lt_size e
  | frz ob u => obtain ⟨e, _⟩ := x; exact Heap.lt_size e
  | tbl ps => exact Heap.lt_size (show h.get? a = some _ from x)
  | met f y => exact Heap.lt_size (show h.get? a = some _ from x)
  | ext φ => obtain ⟨_, ⟨_, e⟩, _⟩ := x; exact Heap.lt_size e
theorem Paired.mapP {α β : Type} {F G : α → β → Prop} : ∀ {l₁ : List α} {l₂ : List β}, Paired F l₁ l₂ → (∀ a b, F a b → G a b) → Paired G l₁ l₂
  | _, _, .nil, _ => .nil
  | _, _, .cons r t, f => .cons (f _ _ r) (Paired.mapP t f)
/-- what an object's description leans on: its own object, its own dict, the tuples -/
theorem ObjOk.stay (x : ObjOk P w H h a o) (k : ∀ b u, (b = a ∨ H b = some (.own a)) → h.get? b = some u → h'.get? b = some u)
    (ho : ∀ b, H b = some (.own a) → H' b = some (.own a)) (ht : ∀ b xs, H b = some (.tup xs) → H' b = some (.tup xs)) : ObjOk P w H' h' a o := by
  induction o with
  | lst xs => obtain ⟨z, its, n, r, e⟩ := x; exact ⟨z, its, n, r, k _ _ (.inl rfl) e⟩
  | tup xs => obtain ⟨z, its, r, ob, e, c⟩ := x; exact ⟨z, its, r, ob, k _ _ (.inl rfl) e, c⟩
  | dK kvs => obtain ⟨z, y, vs, r, ob, es, ep, e, c⟩ := x; exact ⟨z, y, vs, r, ob, es, ep, k _ _ (.inl rfl) e, c⟩
  | dT kvs =>
    obtain ⟨z, y, xs, r, ob, es, ep, e, c⟩ := x
    exact ⟨z, y, xs, Paired.mapP r fun p q z => ⟨z.1, ht _ _ z.2.1, z.2.2⟩, ob, es, ep, k _ _ (.inl rfl) e, c⟩
  | set S n => obtain ⟨ob, es, ep, t, e, c⟩ := x; exact ⟨ob, es, ep, t, k _ _ (.inl rfl) e, c⟩
  | ins C dx fs =>
    obtain ⟨d, z, ne, e, mA, ⟨od, es, ep, e2, c⟩, r⟩ := x
    exact ⟨ho _ d, z, ne, k _ _ (.inl rfl) e, mA, ⟨od, es, ep, k _ _ (.inr d) e2, c⟩, r⟩
  | own y => obtain ⟨ob, e⟩ := x; exact ⟨ob, k _ _ (.inl rfl) e⟩
  | xd fs => obtain ⟨mA, ⟨od, es, ep, e, c⟩, r⟩ := x; exact ⟨mA, ⟨od, es, ep, k _ _ (.inl rfl) e, c⟩, r⟩
  | rng lo hi => obtain ⟨t, u, v, e⟩ := x; exact ⟨t, u, v, k _ _ (.inl rfl) e⟩
  | frz ob u ih => obtain ⟨e, q⟩ := x; exact ⟨k _ _ (.inl rfl) e, ih q⟩
  | tbl ps =>
    have e : h.get? a = some { cls := .none, data := .fields ps } := x
    show h'.get? a = some { cls := .none, data := .fields ps }
    exact k a _ (.inl rfl) e
  | met f y =>
    have e : h.get? a = some (PySem.W.methodObj (.ref f) (.ref y)) := x
    show h'.get? a = some (PySem.W.methodObj (.ref f) (.ref y))
    exact k a _ (.inl rfl) e
  | ext φ => obtain ⟨p, ⟨o, e⟩, st⟩ := x; exact ⟨st _ _ p fun o q => k _ _ (.inl rfl) q, ⟨o, k _ _ (.inl rfl) e⟩, st⟩
theorem HOk.lt (x : HOk P w H h) (e : H a = some o) : a < h.objs.size := (x a o e).lt
theorem HOk.fresh (x : HOk P w H h) (e : h.objs.size ≤ a) : H a = none := by
  cases q : H a with
  | none => rfl
  | some u => exact absurd (Nat.lt_of_lt_of_le (x.lt q) e) (Nat.lt_irrefl _)
/-- every object of the heap is kept -/
theorem HOk.kept (x : HOk P w H h) (k : ∀ b u, h.get? b = some u → h'.get? b = some u) : HOk P w H h' := fun a o e =>
  (x a o e).stay (fun b u _ q => k b u q) (fun _ q => q) fun _ _ q => q
/-- a new object is laid and tracked -/
theorem HOk.laid (x : HOk P w H h) (k : ∀ b u, h.get? b = some u → h'.get? b = some u) (hp : h.objs.size ≤ a) (new : ObjOk P w (upd H a o) h' a o) : HOk P w (upd H a o) h' := fun b u e => by
  have hn := x.fresh hp
  by_cases hb : b = a
  · subst hb; rw [upd_same] at e; cases e; exact new
  · rw [upd_ne hb] at e
    exact (x b u e).stay (fun c v _ q => k c v q) (fun c q => by rw [upd_ne (ne_of_none q hn)]; exact q) fun c xs q => by rw [upd_ne (ne_of_none q hn)]; exact q
end

/-- what may be read as u: it is u, or a known u -/
def Rd (H : Hp) (a : Addr) (u : HO) : Prop := H a = some u ∨ ∃ o, H a = some (.frz o u)
theorem Rd.ok {P : Program} {w : World} {H : Hp} {h : Heap} {a : Addr} {u : HO} (r : Rd H a u) (x : HOk P w H h) : ObjOk P w H h a u := by
  rcases r with r | ⟨o, r⟩
  · exact x a u r
  · obtain ⟨_, q⟩ := x a _ r
    exact q
/-- what may be written -/
def Mut : Option HO → Prop
  | some (.lst _) => True
  | some (.dK _) => True
  | some (.dT _) => True
  | some (.set _ _) => True
  | some (.ins _ _ _) => True
  | some (.ext _) => True
  | _ => False
section
variable {P : Program} {w : World} {H : Hp} {h h' : Heap} {x e : Addr} {o' : HO}
/-- the object at e is changed: x itself, or the dict of the instance x -/
theorem HOk.write (ok : HOk P w H h) (mu : Mut (H x)) (he : e = x ∨ H e = some (.own x)) (k : ∀ b u, b ≠ e → h.get? b = some u → h'.get? b = some u) (heo : ∃ u, h'.get? e = some u)
    (new : ObjOk P w (upd H x o') h' x o') : HOk P w (upd H x o') h' := fun b u q => by
  have nown : ∀ c y, H c = some (.own y) → c ≠ x := fun c y r z => by subst z; rw [r] at mu; exact mu
  have ntup : ∀ c xs, H c = some (.tup xs) → c ≠ x := fun c xs r z => by subst z; rw [r] at mu; exact mu
  by_cases hb : b = x
  · subst hb; rw [upd_same] at q; cases q; exact new
  · rw [upd_ne hb] at q
    by_cases hbe : b = e
    · have q' : H b = some (.own x) := by
        rcases he with z | z
        · exact absurd (hbe.trans z) hb
        · rw [hbe]; exact z
      rw [q] at q'; cases q'
      obtain ⟨v, hv⟩ := heo
      exact ⟨v, by rw [hbe]; exact hv⟩
    · refine (ok b u q).stay (fun c v hc r => k c v ?_ r) (fun c r => by rw [upd_ne (nown c b r)]; exact r) fun c xs r => by rw [upd_ne (ntup c xs r)]; exact r
      rcases hc with rfl | hc
      · exact hbe
      · rintro rfl
        rcases he with z | z
        · exact nown c b hc z
        · rw [hc] at z; cases z; exact hb rfl
end

/-! ### kept unless tracked; of the frames at fs (the callers') the slots may change (an exception that passes writes there); of the records at ex (iterators) nothing is said -/
structure Un (fs ex : List Addr) (H H' : Hp) (h h' : Heap) : Prop where
  keep : ∀ b o, h.get? b = some o → H b = none → b ∉ fs → b ∉ ex → h'.get? b = some o
  slot : ∀ b o, h.get? b = some o → H b = none → b ∈ fs → b ∉ ex → ∃ sl, h'.get? b = some { o with slots := sl }
  free : ∀ b o, h.get? b = some o → H b = none → b ∉ ex → H' b = none
  there : ∀ b o, h.get? b = some o → b ∉ ex → ∃ o', h'.get? b = some o'
  tups : ∀ b xs, H b = some (.tup xs) → H' b = some (.tup xs)
  frzs : ∀ b o u, H b = some (.frz o u) → H' b = some (.frz o u)
  tbls : ∀ b ps, H b = some (.tbl ps) → ∃ more, H' b = some (.tbl (ps ++ more))
section
variable {fs fs' ex ex' : List Addr} {H H1 H2 : Hp} {h h1 h2 h' : Heap} {a x e : Addr} {o : HO}
theorem Un.any (u : Un fs ex H H1 h h1) {b : Addr} {ob : Obj} (q : h.get? b = some ob) (n : H b = none) (hx : b ∉ ex) : ∃ sl, h1.get? b = some { ob with slots := sl } := by
  by_cases hb : b ∈ fs
  · exact u.slot b ob q n hb hx
  · exact ⟨ob.slots, u.keep b ob q n hb hx⟩
theorem Un.kept (k : ∀ b u, h.get? b = some u → h'.get? b = some u) : Un fs ex H H h h' :=
  ⟨fun b ob q _ _ _ => k b ob q, fun b ob q _ _ _ => ⟨ob.slots, k b ob q⟩, fun _ _ _ n _ => n, fun b ob q _ => ⟨ob, k b ob q⟩, fun _ _ q => q, fun _ _ _ q => q, fun _ ps q => ⟨#[], by rw [q]; simp⟩⟩
theorem Un.refl : Un fs ex H H h h := Un.kept fun _ _ q => q
theorem Un.laid (k : ∀ b u, h.get? b = some u → h'.get? b = some u) (hp : h.objs.size ≤ a) (hn : H a = none) : Un fs ex H (upd H a o) h h' where
  keep := fun b u q _ _ _ => k b u q
  slot := fun b u q _ _ _ => ⟨u.slots, k b u q⟩
  free := fun b u q n _ => by rw [upd_ne (Nat.ne_of_lt (Nat.lt_of_lt_of_le (Heap.lt_size q) hp))]; exact n
  there := fun b u q _ => ⟨u, k b u q⟩
  tups := fun b xs q => by rw [upd_ne (ne_of_none q hn)]; exact q
  frzs := fun b u xs q => by rw [upd_ne (ne_of_none q hn)]; exact q
  tbls := fun b ps q => ⟨#[], by rw [upd_ne (ne_of_none q hn), q]; simp⟩
theorem Un.write (mu : Mut (H x)) (he : e = x ∨ H e = some (.own x)) (k : ∀ b u, b ≠ e → h.get? b = some u → h'.get? b = some u) (heo : ∃ u, h'.get? e = some u) : Un fs ex H (upd H x o) h h' := by
  have hx : ∀ b, H b = none → b ≠ x := fun b n z => by subst z; rw [n] at mu; exact mu
  have hb : ∀ b, H b = none → b ≠ e := fun b n z => by
    subst z
    rcases he with r | r
    · exact hx b n r
    · rw [n] at r; cases r
  have hm : ∀ b u, H b = some u → ¬ Mut (some u) → b ≠ x := fun b u q nm z => by subst z; rw [q] at mu; exact nm mu
  refine ⟨fun b u q n _ _ => k b u (hb b n) q, fun b u q n _ _ => ⟨u.slots, k b u (hb b n) q⟩, fun b u q n _ => by rw [upd_ne (hx b n)]; exact n, fun b u q _ => ?_,
    fun b xs q => by rw [upd_ne (hm b _ q fun z => z)]; exact q, fun b u xs q => by rw [upd_ne (hm b _ q fun z => z)]; exact q, fun b ps q => ⟨#[], by rw [upd_ne (hm b _ q fun z => z), q]; simp⟩⟩
  by_cases hbe : b = e
  · subst hbe; exact heo
  · exact ⟨u, k b u hbe q⟩
end

/-! ### the heap without what is tracked -/
def trk (h : Heap) (H : Hp) : List Addr := (List.range h.objs.size).filter fun a => (H a).isSome
def hidT (h : Heap) (H : Hp) : Heap := PySem.W.hideAll h (trk h H)
theorem hidT_size (h : Heap) (H : Hp) : (hidT h H).objs.size = h.objs.size := PySem.W.hideAll_size _ _
theorem hidT_get {h : Heap} {H : Hp} {b : Addr} {o : Obj} (e : h.get? b = some o) (n : H b = none) : (hidT h H).get? b = some o :=
  PySem.W.hideAll_get _ e fun hm => by
    have q : (H b).isSome = true := (List.mem_filter.mp hm).2
    rw [n] at q; simp at q
theorem of_hidT {h : Heap} {H : Hp} {b : Addr} {o : Obj} (e : (hidT h H).get? b = some o) : h.get? b = some o ∧ H b = none := by
  have e' : h.get? b = some o := PySem.W.of_hideAll (trk h H) e
  refine ⟨e', ?_⟩
  cases q : H b with
  | none => rfl
  | some x =>
    have hm : b ∈ trk h H := List.mem_filter.mpr ⟨List.mem_range.mpr (Heap.lt_size e'), by simp [q]⟩
    have z : (hidT h H).get? b = none := PySem.W.hideAll_none (trk h H) hm
    rw [z] at e; cases e

/-! ### OpenK's ledger, filled with every new object but one -/
end L2

namespace L2
open PySem PySem.Spec PyProof.Rows

/-- the module's facts, over the base: the heap at the law's entry without what is tracked there -/
structure Mod (K : PySem.W.Frag) (mg : Str → Option Value) (base : Heap) : Prop where
  kin : K.In base
  glob : base.Ns mainGlobals mg
  blt : ∃ mb, base.Ns builtinsNs mb ∧ ∀ x : Str, x ≠ "__name__" → mb x = bootBuiltins x
  nolimit : base.NoLimit

/-- the context: a def's body (or a comprehension's block) running. base: fixed through the whole law; s₀, H₀: the entry; outer: the frames whose slots others may change (a def's callers); stack: all frames that run;
   ex: iterators that were made ahead of the entry and are walked here (a comprehension's); fn: the names whose cells were made at the entry (a def: all; a comprehension's block: its own); calm: not within an except suite; pn: pins that every state bears; xe: what is wanted of an exception that leaves the code -/
structure Cx where
  prog : Program
  w : World
  K : PySem.W.Frag
  mg : Str → Option Value
  base : Heap
  A : Around
  N : List Str
  s_0 : Shared
  H_0 : Hp
  env : Env
  outer : List Env
  stack : List Env
  ex : List Addr
  fn : Str → Bool
  calm : Bool
  pn : List (Addr × Obj)
  xe : Value → Shared → Prop
/-- the callers' frames -/
def frs (l : List Env) : List Addr := l.filterMap (·.frame)
abbrev Cx.fs (X : Cx) : List Addr := frs X.outer

def Vis (sc : Scope) (x : Str) : Prop := sc.names.lookup x = some .local ∨ sc.names.lookup x = some .cell ∨ sc.names.lookup x = some .free
def Loc (sc : Scope) (x : Str) : Prop := sc.names.lookup x = some .local ∨ sc.names.lookup x = some .cell
def Look (env : Env) (h : Heap) (m : Str → Option Value) (x : Str) (u : Value) : Prop :=
  (env.kindOf x = some .local ∧ m x = some u) ∨ ((env.kindOf x = some .cell ∨ env.kindOf x = some .free) ∧ ∃ c, env.cells.lookup x = some c ∧ h.IsCell c (some u))

structure Cx.Ok (X : Cx) : Prop where
  mod : Mod X.K X.mg X.base
  kind : X.env.scope.kind = .function
  glob : X.env.globals = mainGlobals
  blt : X.env.builtins = builtinsNs
  above : X.s_0.heap.objs.size ≤ X.env.locals
  inj : ∀ x y c, X.env.cells.lookup x = some c → X.env.cells.lookup y = some c → x = y
  has : ∀ x, (X.env.kindOf x = some .cell ∨ X.env.kindOf x = some .free) → ∃ c, X.env.cells.lookup x = some c
  cab : ∀ x c, X.fn x = true → X.env.cells.lookup x = some c → X.s_0.heap.objs.size ≤ c
  hd : X.calm = true → X.A.handled = none
  frames : X.A.frames = some X.stack
  stk : X.stack = X.outer ∨ (X.stack = X.env :: X.outer ∧ X.env.frame = some X.env.locals)
  exf : ∀ b ∈ X.ex, b ≠ X.env.locals ∧ ∀ x c, X.env.cells.lookup x = some c → c ≠ b
  bs : ∀ b o, X.base.get? b = some o → X.s_0.heap.get? b = some o ∧ X.H_0 b = none
  bsz : X.base.objs.size ≤ X.s_0.heap.objs.size
  noex : ∀ b o, X.base.get? b = some o → b ∉ X.ex
  exfs : ∀ b ∈ X.ex, b ∉ X.fs
  funs : X.s_0.heap.FunFrames X.base X.outer
  frf : ∀ b ∈ X.fs, X.H_0 b = none

structure Inv (X : Cx) (pins : List (Addr × Obj)) (σ : List (Option V)) (H : Hp) (s : Shared) : Prop where
  ok : X.Ok
  os : s.os = X.s_0.os
  bare : AllBare s.gens
  base : Un X.fs X.ex X.H_0 H X.s_0.heap s.heap
  loc : ∃ m, s.heap.Ns X.env.locals m ∧ ∀ (i : Nat) (x : Str) (v : V), X.N[i]? = some x → σ[i]? = some (some v) → Vis X.env.scope x → ∃ u, RelV v u ∧ Look X.env s.heap m x u
  cell : ∀ x c, X.env.cells.lookup x = some c → ∃ v, s.heap.IsCell c v
  free : H X.env.locals = none
  freeC : ∀ x c, X.env.cells.lookup x = some c → H c = none
  pin : ∀ p ∈ X.pn ++ pins, s.heap.get? p.1 = some p.2 ∧ H p.1 = none ∧ p.1 ≠ X.env.locals ∧ p.1 ∉ X.fs ∧ ∀ v, p.2.data ≠ .cell v
  hok : HOk X.prog X.w H s.heap
  len : σ.length = X.N.length

section
variable {X : Cx} {pins : List (Addr × Obj)} {σ : List (Option V)} {H H' : Hp} {s : Shared} {h' : Heap}

theorem Cx.Ok.nofr (ok : X.Ok) {b : Addr} {o : Obj} (e : X.base.get? b = some o) : b ∉ X.fs := fun hb => by
  have := (ok.funs.mem hb).1
  rw [e] at this; cases this
theorem Inv.bs (I : Inv X pins σ H s) : ∀ b o, X.base.get? b = some o → s.heap.get? b = some o ∧ H b = none := fun b o e =>
  ⟨I.base.keep b o (I.ok.bs b o e).1 (I.ok.bs b o e).2 (I.ok.nofr e) (I.ok.noex b o e), I.base.free b o (I.ok.bs b o e).1 (I.ok.bs b o e).2 (I.ok.noex b o e)⟩
theorem Inv.bk (I : Inv X pins σ H s) : ∀ b o, X.base.get? b = some o → s.heap.get? b = some o := fun b o e => (I.bs b o e).1
theorem Inv.mod (I : Inv X pins σ H s) : Mod X.K X.mg X.base := I.ok.mod
theorem Inv.kIn (I : Inv X pins σ H s) : X.K.In s.heap := I.ok.mod.kin.keeps I.bk
theorem Inv.lt (I : Inv X pins σ H s) : X.env.locals < s.heap.objs.size := let ⟨_, hn, _⟩ := I.loc; hn.lt
theorem Inv.sz (I : Inv X pins σ H s) : X.s_0.heap.objs.size ≤ s.heap.objs.size := Nat.le_trans I.ok.above (Nat.le_of_lt I.lt)
theorem Inv.nofs (I : Inv X pins σ H s) {a : Addr} (h : s.heap.objs.size ≤ a) : a ∉ X.fs := fun hb => by
  obtain ⟨_, o, ho, _⟩ := I.ok.funs.mem hb
  exact absurd (Nat.lt_of_lt_of_le (Heap.lt_size ho) (Nat.le_trans I.sz h)) (Nat.lt_irrefl _)
theorem Inv.cne (I : Inv X pins σ H s) : ∀ x c, X.env.cells.lookup x = some c → c ≠ X.env.locals := fun x c e z => by
  obtain ⟨v, o, ho, hd⟩ := I.cell x c e
  obtain ⟨m, ⟨o', es, ep, ho', hd', _⟩, _⟩ := I.loc
  rw [z, ho'] at ho; cases ho; rw [hd'] at hd; cases hd
theorem Inv.funs (I : Inv X pins σ H s) : s.heap.FunFrames X.base X.outer := by
  have all : ∀ (l : List Env), (∀ b ∈ frs l, b ∈ X.fs) → X.s_0.heap.FunFrames X.base l → s.heap.FunFrames X.base l := by
    intro l
    induction l with
    | nil => intro _ _; trivial
    | cons env r ih =>
      intro hs hl
      obtain ⟨hk, ⟨L, o, hf, hn, ho, hd⟩, hr⟩ := hl
      have hL : L ∈ X.fs := hs L (by unfold frs; rw [List.filterMap_cons, hf]; exact List.mem_cons_self)
      obtain ⟨sl, e⟩ := I.base.slot L o ho (I.ok.frf L hL) hL fun z => I.ok.exfs L z hL
      exact ⟨hk, ⟨L, _, hf, hn, e, hd⟩, ih (fun b hb => hs b (by unfold frs; rw [List.filterMap_cons, hf]; exact List.mem_cons_of_mem _ hb)) hr⟩
  exact all X.outer (fun _ hb => hb) I.ok.funs

/-- the frames that run, for a call -/
theorem Inv.stack (I : Inv X pins σ H s) : s.heap.FunFrames X.base X.stack := by
  rcases I.ok.stk with e | ⟨e, hf⟩
  · rw [e]; exact I.funs
  · rw [e]
    obtain ⟨m, hn, _⟩ := I.loc
    refine .cons (by rw [I.ok.kind]; decide) hf hn ?_ I.funs
    exact Heap.get?_none_of_le (Nat.le_trans I.ok.bsz I.ok.above)
theorem Inv.stkSub (I : Inv X pins σ H s) : ∀ b ∈ frs X.stack, b ∈ X.env.locals :: X.fs := fun b hb => by
  rcases I.ok.stk with e | ⟨e, hf⟩
  · rw [e] at hb; exact List.mem_cons_of_mem _ hb
  · rw [e] at hb
    unfold frs at hb
    rw [List.filterMap_cons, hf] at hb
    exact hb
theorem Inv.stkFree (I : Inv X pins σ H s) : ∀ b ∈ frs X.stack, H b = none := fun b hb => by
  rcases List.mem_cons.mp (I.stkSub b hb) with e | hb
  · rw [e]; exact I.free
  · obtain ⟨_, o, ho, _⟩ := I.ok.funs.mem hb
    exact I.base.free b o ho (I.ok.frf b hb) fun z => I.ok.exfs b z hb

/-- THE STEP: the untracked objects but the frame and the records at ch are kept (the callers' frames up to slots), the frame's map is kept, the new abstract heap is held -/
theorem Inv.step {g' : Array GenState} {t' : Nat} {d' : Drawn} {ch : List Addr} (I : Inv X pins σ H s)
    (hch : ∀ b ∈ ch, (b ∈ X.ex ∨ X.s_0.heap.objs.size ≤ b) ∧ b ≠ X.env.locals ∧ (∀ x c, X.env.cells.lookup x = some c → c ≠ b) ∧ ∀ p ∈ X.pn ++ pins, p.1 ≠ b)
    (keep : ∀ b o, b ≠ X.env.locals → b ∉ X.fs → b ∉ ch → s.heap.get? b = some o → H b = none → h'.get? b = some o)
    (slot : ∀ b o, b ≠ X.env.locals → b ∈ X.fs → b ∉ ch → s.heap.get? b = some o → H b = none → ∃ sl, h'.get? b = some { o with slots := sl }) (free : ∀ b o, b ∉ ch → s.heap.get? b = some o → H b = none → H' b = none)
    (there : ∀ b o, b ∉ ch → s.heap.get? b = some o → ∃ o', h'.get? b = some o')
    (tups : ∀ b xs, H b = some (.tup xs) → H' b = some (.tup xs)) (frzs : ∀ b o u, H b = some (.frz o u) → H' b = some (.frz o u)) (tbls : ∀ b ps, H b = some (.tbl ps) → ∃ more, H' b = some (.tbl (ps ++ more)))
    (ns : ∀ m, s.heap.Ns X.env.locals m → h'.Ns X.env.locals m) (hok : HOk X.prog X.w H' h') (hg : AllBare g') :
    Inv X pins σ H' { s with heap := h', gens := g', drawn := d', toks := t' } := by
  have neL : ∀ b o, X.s_0.heap.get? b = some o → b ≠ X.env.locals := fun b o e => Nat.ne_of_lt (Nat.lt_of_lt_of_le (Heap.lt_size e) I.ok.above)
  have neC : ∀ b o, X.s_0.heap.get? b = some o → b ∉ X.ex → b ∉ ch := fun b o e hx hb => by
    rcases (hch b hb).1 with z | z
    · exact hx z
    · exact absurd (Nat.lt_of_lt_of_le (Heap.lt_size e) z) (Nat.lt_irrefl _)
  have cellK : ∀ x c, X.env.cells.lookup x = some c → ∀ v, s.heap.IsCell c v → h'.IsCell c v := fun x c e v ⟨o, ho, hd⟩ => by
    have nch : c ∉ ch := fun z => (hch c z).2.2.1 x c e rfl
    by_cases hc : c ∈ X.fs
    · obtain ⟨sl, q⟩ := slot c o (I.cne x c e) hc nch ho (I.freeC x c e)
      exact ⟨_, q, hd⟩
    · exact ⟨o, keep c o (I.cne x c e) hc nch ho (I.freeC x c e), hd⟩
  refine ⟨I.ok, I.os, hg, ⟨fun b o e n hb hx => ?_, fun b o e n hb hx => ?_, fun b o e n hx => ?_, fun b o e hx => ?_, fun b xs e => tups b xs (I.base.tups b xs e), fun b o xs e => frzs b o xs (I.base.frzs b o xs e), fun b ps e => ?_⟩, ?_, fun x c e => ?_, ?_, fun x c e => ?_, fun p hp => ?_, hok, I.len⟩
  · exact keep b o (neL b o e) hb (neC b o e hx) (I.base.keep b o e n hb hx) (I.base.free b o e n hx)
  · obtain ⟨sl, e1⟩ := I.base.slot b o e n hb hx
    obtain ⟨sl', e2⟩ := slot b _ (neL b o e) hb (neC b o e hx) e1 (I.base.free b o e n hx)
    exact ⟨sl', e2⟩
  · obtain ⟨o', e1⟩ := I.base.there b o e hx
    exact free b o' (neC b o e hx) e1 (I.base.free b o e n hx)
  · obtain ⟨o', e1⟩ := I.base.there b o e hx
    exact there b o' (neC b o e hx) e1
  · obtain ⟨m1, e1⟩ := I.base.tbls b ps e
    obtain ⟨m2, e2⟩ := tbls b _ e1
    exact ⟨m1 ++ m2, by rw [e2, Array.append_assoc]⟩
  · obtain ⟨m, hn, hl⟩ := I.loc
    refine ⟨m, ns m hn, fun i x v e1 e2 e3 => ?_⟩
    obtain ⟨u, r, l⟩ := hl i x v e1 e2 e3
    refine ⟨u, r, ?_⟩
    rcases l with l | ⟨k, c, e, z⟩
    · exact .inl l
    · exact .inr ⟨k, c, e, cellK x c e _ z⟩
  · obtain ⟨v, z⟩ := I.cell x c e
    exact ⟨v, cellK x c e v z⟩
  · obtain ⟨m, ⟨o, _, _, ho, _⟩, _⟩ := I.loc
    exact free _ o (fun z => (hch _ z).2.1 rfl) ho I.free
  · obtain ⟨v, o, ho, hd⟩ := I.cell x c e
    exact free c o (fun z => (hch c z).2.2.1 x c e rfl) ho (I.freeC x c e)
  · obtain ⟨e, n, ne, nf, d⟩ := I.pin p hp
    have nch : p.1 ∉ ch := fun z => (hch p.1 z).2.2.2 p hp rfl
    exact ⟨keep p.1 p.2 ne nf nch e n, free p.1 p.2 nch e n, ne, nf, d⟩
/-- .. where the frame's own object is kept too -/
theorem Inv.un {t' : Nat} (I : Inv X pins σ H s) (u : Un X.fs [] H H' s.heap h') (hok : HOk X.prog X.w H' h') : Inv X pins σ H' { s with heap := h', toks := t' } := by
  obtain ⟨m, ⟨o, es, ep, ho, r⟩, _⟩ := id I.loc
  obtain ⟨sl, hL⟩ := u.any ho I.free (by simp)
  exact I.step (g' := s.gens) (d' := s.drawn) (ch := []) (fun _ z => nomatch z) (fun b o _ hb _ e n => u.keep b o e n hb (by simp)) (fun b o _ hb _ e n => u.slot b o e n hb (by simp)) (fun b o _ e n => u.free b o e n (by simp)) (fun b o _ e => u.there b o e (by simp)) u.tups u.frzs u.tbls (fun m' hm => by
    obtain ⟨o', es', ep', ho', r'⟩ := hm
    rw [ho] at ho'; cases ho'
    exact ⟨_, es', ep', hL, r'⟩) hok I.bare
/-- behind a call (or a comprehension's block): the slots of this frame may have changed too, the records at ch may have turned -/
theorem Inv.call {g' : Array GenState} {t' : Nat} {d' : Drawn} {ch : List Addr} (I : Inv X pins σ H s) (u : Un (frs X.stack) ch H H' s.heap h') (hok : HOk X.prog X.w H' h') (hg : AllBare g')
    (hch : ∀ b ∈ ch, (b ∈ X.ex ∨ X.s_0.heap.objs.size ≤ b) ∧ b ≠ X.env.locals ∧ (∀ x c, X.env.cells.lookup x = some c → c ≠ b) ∧ ∀ p ∈ X.pn ++ pins, p.1 ≠ b) :
    Inv X pins σ H' { s with heap := h', gens := g', drawn := d', toks := t' } := by
  obtain ⟨m, ⟨o, es, ep, ho, r⟩, _⟩ := id I.loc
  obtain ⟨sl, hL⟩ := u.any ho I.free fun z => (hch _ z).2.1 rfl
  exact I.step (ch := ch) hch (fun b o hL hb hc e n => u.keep b o e n (fun z => (List.mem_cons.mp (I.stkSub b z)).elim hL hb) hc) (fun b o _ _ hc e n => u.any e n hc) (fun b o hc e n => u.free b o e n hc) (fun b o hc e => u.there b o e hc) u.tups u.frzs u.tbls (fun m' hm => by
    obtain ⟨o', es', ep', ho', r'⟩ := hm
    rw [ho] at ho'; cases ho'
    exact ⟨_, es', ep', hL, r'⟩) hok hg
/-- an untracked record of ours (an iterator) has turned -/
theorem Inv.turned {t' : Nat} {it : Addr} (I : Inv X pins σ H s) (k : ∀ b o, b ≠ it → s.heap.get? b = some o → h'.get? b = some o) (hn : H it = none) (hL : it ≠ X.env.locals)
    (h1 : it ∈ X.ex ∨ X.s_0.heap.objs.size ≤ it) (h2 : ∀ x c, X.env.cells.lookup x = some c → c ≠ it) (h3 : ∀ p ∈ X.pn ++ pins, p.1 ≠ it) : Inv X pins σ H { s with heap := h', toks := t' } := by
  have nit : ∀ b u, H b = some u → b ≠ it := fun b u e z => by rw [z, hn] at e; cases e
  refine I.step (g' := s.gens) (d' := s.drawn) (ch := [it]) (fun b hb => ?_) (fun b o _ _ hc e _ => k b o (fun z => hc (by simp [z])) e) (fun b o _ _ hc e _ => ⟨o.slots, k b o (fun z => hc (by simp [z])) e⟩) (fun _ _ _ _ n => n)
    (fun b o hc e => ⟨o, k b o (fun z => hc (by simp [z])) e⟩) (fun _ _ e => e) (fun _ _ _ e => e) (fun b ps e => ⟨#[], by rw [e]; simp⟩) (fun m hm => ?_) (fun b u e => ?_) I.bare
  · have e : b = it := by simpa using hb
    subst e
    exact ⟨h1, hL, h2, h3⟩
  · obtain ⟨o, es, ep, ho, r⟩ := hm
    exact ⟨o, es, ep, k _ o (Ne.symm hL) ho, r⟩
  · refine (I.hok b u e).stay (fun c v hc q => k c v ?_ q) (fun _ q => q) fun _ _ q => q
    rcases hc with z | z
    · rw [z]; exact nit b u e
    · exact nit c _ z
theorem Inv.tok (I : Inv X pins σ H s) (t : Nat) : Inv X pins σ H { s with toks := t } := I.un (h' := s.heap) (t' := t) Un.refl I.hok
/-- all objects kept -/
theorem Inv.kept {t' : Nat} (I : Inv X pins σ H s) (k : ∀ b u, s.heap.get? b = some u → h'.get? b = some u) : Inv X pins σ H { s with heap := h', toks := t' } := I.un (Un.kept k) (I.hok.kept k)
/-- a new object laid and tracked -/
theorem Inv.laid {a : Addr} {o : HO} {t' : Nat} (I : Inv X pins σ H s) (k : ∀ b u, s.heap.get? b = some u → h'.get? b = some u) (hp : s.heap.objs.size ≤ a) (new : ObjOk X.prog X.w (upd H a o) h' a o) :
    Inv X pins σ (upd H a o) { s with heap := h', toks := t' } := I.un (Un.laid k hp (I.hok.fresh hp)) (I.hok.laid k hp new)
/-- an object written -/
theorem Inv.write {x e : Addr} {o : HO} {t' : Nat} (I : Inv X pins σ H s) (mu : Mut (H x)) (he : e = x ∨ H e = some (.own x)) (k : ∀ b u, b ≠ e → s.heap.get? b = some u → h'.get? b = some u) (heo : ∃ u, h'.get? e = some u)
    (new : ObjOk X.prog X.w (upd H x o) h' x o) : Inv X pins σ (upd H x o) { s with heap := h', toks := t' } := I.un (Un.write mu he k heo) (I.hok.write mu he k heo new)
/-- forgetting slots, pins -/
theorem Inv.weak {σ' : List (Option V)} (I : Inv X pins σ H s) (hl : σ'.length = σ.length) (w : ∀ (i : Nat) v, σ'[i]? = some (some v) → σ[i]? = some (some v)) : Inv X pins σ' H s :=
  ⟨I.ok, I.os, I.bare, I.base, let ⟨m, hn, hl'⟩ := I.loc; ⟨m, hn, fun i x v e1 e2 e3 => hl' i x v e1 (w i v e2) e3⟩, I.cell, I.free, I.freeC, I.pin, I.hok, hl.trans I.len⟩
theorem Inv.pins_of {pins' : List (Addr × Obj)} (I : Inv X pins σ H s) (h : ∀ p ∈ pins', s.heap.get? p.1 = some p.2 ∧ H p.1 = none ∧ p.1 ≠ X.env.locals ∧ p.1 ∉ X.fs ∧ ∀ v, p.2.data ≠ .cell v) : Inv X pins' σ H s :=
  ⟨I.ok, I.os, I.bare, I.base, I.loc, I.cell, I.free, I.freeC, fun p hp => (List.mem_append.mp hp).elim (fun z => I.pin p (List.mem_append_left _ z)) (h p), I.hok, I.len⟩

theorem nodup_ix {N : List Str} (hN : N.Nodup) {i j : Nat} {x : Str} (a : N[i]? = some x) (b : N[j]? = some x) : i = j := by
  obtain ⟨h1, e1⟩ := List.getElem?_eq_some_iff.mp a
  obtain ⟨h2, e2⟩ := List.getElem?_eq_some_iff.mp b
  exact (List.getElem_inj hN).mp (e1.trans e2.symm)

/-- a name is stored; what changed -/
theorem store_ok2 {M : Model} {A : Around} {E : Value → Shared → Prop} {i : Nat} {x : Str} {v : V} {u : Value} {Q : Unit → Shared → Prop} (I : Inv X pins σ H s) (hN : X.N.Nodup) (hi : X.N[i]? = some x) (hx : Loc X.env.scope x) (r : RelV v u)
    (h : ∀ s', Inv X pins (σ.set i (some v)) H s' → (∃ a, Heap.SameBut a s.heap s'.heap ∧ (a = X.env.locals ∨ X.env.cells.lookup x = some a)) → Q () s') (hf : X.fn x = true ∨ X.env.scope.names.lookup x = some .local := by first | exact .inl rfl | exact .inr rfl | assumption) : wpAny M A (storeName X.env x u) Q E s := by
  obtain ⟨m, hn, hl⟩ := id I.loc
  have hcls : (X.env.scope.kind == .class || (X.env.scope.kind == .module && X.env.locals != X.env.globals)) = false := by rw [I.ok.kind]; rfl
  have hiσ : i < σ.length := by rw [I.len]; exact (List.getElem?_eq_some_iff.mp hi).1
  have cne := I.cne
  have tracked : ∀ {a : Addr} {h' : Heap}, (∃ o, s.heap.get? a = some o ∧ H a = none) → Heap.SameBut a s.heap h' → HOk X.prog X.w H h' := fun {a h'} ha hs b ob e => by
    obtain ⟨_, _, hfree⟩ := ha
    refine (I.hok b ob e).stay (fun c w' hc q => (hs.2 c ?_).trans q) (fun _ q => q) fun _ _ q => q
    rintro rfl
    rcases hc with rfl | hc
    · rw [hfree] at e; cases e
    · rw [hfree] at hc; cases hc
  rcases hx with hk | hk
  · refine wpAny_storeName_local hk hn (fun h' hn' hs => ?_) hcls
    obtain ⟨oL, _, _, hoL, _⟩ := id hn
    refine h _ ⟨I.ok, I.os, I.bare, ⟨fun b o e n hb hx => ?_, fun b o e n hb hx => ?_, I.base.free, fun b o e hx => ?_, I.base.tups, I.base.frzs, I.base.tbls⟩, ⟨_, hn', fun j y v' e1 e2 e3 => ?_⟩, fun y c e => ?_, I.free, I.freeC, fun p hp => ?_, tracked ⟨oL, hoL, I.free⟩ hs, by simpa using I.len⟩ ⟨_, hs, .inl rfl⟩
    · exact (hs.2 b (Nat.ne_of_lt (Nat.lt_of_lt_of_le (Heap.lt_size e) I.ok.above))).trans (I.base.keep b o e n hb hx)
    · obtain ⟨sl, e1⟩ := I.base.slot b o e n hb hx
      exact ⟨sl, (hs.2 b (Nat.ne_of_lt (Nat.lt_of_lt_of_le (Heap.lt_size e) I.ok.above))).trans e1⟩
    · obtain ⟨o', e1⟩ := I.base.there b o e hx
      exact ⟨o', (hs.2 b (Nat.ne_of_lt (Nat.lt_of_lt_of_le (Heap.lt_size e) I.ok.above))).trans e1⟩
    · by_cases hj : j = i
      · subst hj
        rw [hi] at e1; cases e1
        rw [List.getElem?_set_self hiσ] at e2
        cases e2
        exact ⟨u, r, .inl ⟨hk, by simp⟩⟩
      · rw [List.getElem?_set_ne (Ne.symm hj)] at e2
        obtain ⟨u', r', q⟩ := hl j y v' e1 e2 e3
        refine ⟨u', r', ?_⟩
        rcases q with ⟨k, e⟩ | ⟨k, c, e, z⟩
        · refine .inl ⟨k, ?_⟩
          have : y ≠ x := fun e => hj (nodup_ix hN e1 (e ▸ hi))
          simp [this, e]
        · exact .inr ⟨k, c, e, z.sameBut hs (cne y c e)⟩
    · obtain ⟨w', z⟩ := I.cell y c e
      exact ⟨w', z.sameBut hs (cne y c e)⟩
    · obtain ⟨e, n, ne, nf, d⟩ := I.pin p hp
      exact ⟨(hs.2 p.1 ne).trans e, n, ne, nf, d⟩
  · have hfn : X.fn x = true := by
      rcases hf with z | z
      · exact z
      · rw [z] at hk; cases hk
    obtain ⟨c, hc⟩ := I.ok.has x (.inl hk)
    obtain ⟨w', z⟩ := I.cell x c hc
    refine wpAny_storeName_cell I.ok.kind hk hc z (fun h' hc' hs => ?_)
    obtain ⟨oc, hoc, hocd⟩ := id z
    refine h { s with heap := h' } ⟨I.ok, I.os, I.bare, ⟨fun b o e n hb hx => ?_, fun b o e n hb hx => ?_, I.base.free, fun b o e hx => ?_, I.base.tups, I.base.frzs, I.base.tbls⟩, ⟨m, hn.sameBut hs (Ne.symm (cne x c hc)), fun j y v' e1 e2 e3 => ?_⟩, fun y c' e => ?_, I.free, I.freeC, fun p hp => ?_, tracked ⟨oc, hoc, I.freeC x c hc⟩ hs, by simpa using I.len⟩ ⟨c, hs, .inr hc⟩
    · exact (hs.2 b (Nat.ne_of_lt (Nat.lt_of_lt_of_le (Heap.lt_size e) (I.ok.cab x c hfn hc)))).trans (I.base.keep b o e n hb hx)
    · obtain ⟨sl, e1⟩ := I.base.slot b o e n hb hx
      exact ⟨sl, (hs.2 b (Nat.ne_of_lt (Nat.lt_of_lt_of_le (Heap.lt_size e) (I.ok.cab x c hfn hc)))).trans e1⟩
    · obtain ⟨o', e1⟩ := I.base.there b o e hx
      exact ⟨o', (hs.2 b (Nat.ne_of_lt (Nat.lt_of_lt_of_le (Heap.lt_size e) (I.ok.cab x c hfn hc)))).trans e1⟩
    · by_cases hj : j = i
      · subst hj
        rw [hi] at e1; cases e1
        rw [List.getElem?_set_self hiσ] at e2
        cases e2
        exact ⟨u, r, .inr ⟨.inl hk, c, hc, hc'⟩⟩
      · rw [List.getElem?_set_ne (Ne.symm hj)] at e2
        obtain ⟨u', r', q⟩ := hl j y v' e1 e2 e3
        refine ⟨u', r', ?_⟩
        rcases q with q | ⟨k, c', e, z'⟩
        · exact .inl q
        · refine .inr ⟨k, c', e, z'.sameBut hs ?_⟩
          rintro rfl
          exact hj (nodup_ix hN e1 (I.ok.inj _ _ _ e hc ▸ hi))
    · by_cases hcc : c' = c
      · subst hcc; exact ⟨_, hc'⟩
      · obtain ⟨w2, z2⟩ := I.cell y c' e
        exact ⟨w2, z2.sameBut hs hcc⟩
    · obtain ⟨e, n, ne, nf, d⟩ := I.pin p hp
      refine ⟨(hs.2 p.1 ?_).trans e, n, ne, nf, d⟩
      intro q
      rw [q, hoc] at e
      have q' : oc = p.2 := Option.some.inj e
      exact d w' (by rw [← q']; exact hocd)
theorem store_ok {M : Model} {A : Around} {E : Value → Shared → Prop} {i : Nat} {x : Str} {v : V} {u : Value} {Q : Unit → Shared → Prop} (I : Inv X pins σ H s) (hN : X.N.Nodup) (hi : X.N[i]? = some x) (hx : Loc X.env.scope x) (r : RelV v u)
    (h : ∀ s', Inv X pins (σ.set i (some v)) H s' → Q () s') (hf : X.fn x = true ∨ X.env.scope.names.lookup x = some .local := by first | exact .inl rfl | exact .inr rfl | assumption) : wpAny M A (storeName X.env x u) Q E s :=
  store_ok2 I hN hi hx r (fun s' I' _ => h s' I') hf
/-- behind a call or a block, the state as it is -/
theorem Inv.call' {s' : Shared} {ch : List Addr} (I : Inv X pins σ H s) (ho : s'.os = s.os) (u : Un (frs X.stack) ch H H' s.heap s'.heap) (hok : HOk X.prog X.w H' s'.heap) (hg : AllBare s'.gens)
    (hch : ∀ b ∈ ch, (b ∈ X.ex ∨ X.s_0.heap.objs.size ≤ b) ∧ b ≠ X.env.locals ∧ (∀ x c, X.env.cells.lookup x = some c → c ≠ b) ∧ ∀ p ∈ X.pn ++ pins, p.1 ≠ b) : Inv X pins σ H' s' := by
  obtain ⟨h', g', d', t', o'⟩ := s'
  have e : o' = s.os := ho
  subst e
  exact I.call (g' := g') (t' := t') (d' := d') u hok hg hch
end

/-! ### the judgements -/
/-- an exception: its class, its own dict's address (where it has one), the abstract heap behind it -/
abbrev XK := Value → Option Addr → Hp → Prop
abbrev St := List (Option V)
abbrev VK := V → Hp → Prop
/-- an expression's reading; a test's; an argument list's -/
abbrev TE := St → Hp → VK → Prop
abbrev TT := St → Hp → (Bool → Hp → Prop) → Prop
abbrev TA := St → Hp → (List V → Hp → Prop) → Prop
/-- what is wanted behind a statement -/
structure Ends where
  nx : St → Hp → Prop
  rt : VK
  bk : St → Hp → Prop := fun _ _ => False
  ct : St → Hp → Prop := fun _ _ => False
abbrev TS := Ends → St → Hp → Prop

def EP (X : Cx) (pins : List (Addr × Obj)) (σ : St) (Q : VK) (u : Value) (s' : Shared) : Prop := ∃ v H', Inv X pins σ H' s' ∧ RelV v u ∧ Q v H'
def TP (X : Cx) (pins : List (Addr × Obj)) (σ : St) (Q : Bool → Hp → Prop) (b : Bool) (s' : Shared) : Prop := ∃ H', Inv X pins σ H' s' ∧ Q b H'
def AP (X : Cx) (pins : List (Addr × Obj)) (σ : St) (Q : List V → Hp → Prop) (us : List Value) (s' : Shared) : Prop := ∃ vs H', Inv X pins σ H' s' ∧ Vals vs us ∧ Q vs H'
def SP (X : Cx) (pins : List (Addr × Obj)) (D : Ends) (f : Flow) (s' : Shared) : Prop :=
  match f with
  | .next => ∃ σ' H', Inv X pins σ' H' s' ∧ D.nx σ' H'
  | .brk => ∃ σ' H', Inv X pins σ' H' s' ∧ D.bk σ' H'
  | .cont => ∃ σ' H', Inv X pins σ' H' s' ∧ D.ct σ' H'
  | .ret u => ∃ v σ' H', Inv X pins σ' H' s' ∧ RelV v u ∧ D.rt v H'

def PE (X : Cx) (e : Expr) (t : TE) : Prop :=
  ∀ (pins : List (Addr × Obj)) (s : Shared) (σ : St) (H : Hp) (Q : VK), Inv X pins σ H s → t σ H Q → wpAny (model X.prog X.w) X.A (eval e X.env) (EP X pins σ Q) X.xe s
def PT (X : Cx) (e : Expr) (t : TT) : Prop :=
  ∀ (pins : List (Addr × Obj)) (s : Shared) (σ : St) (H : Hp) (Q : Bool → Hp → Prop), Inv X pins σ H s → t σ H Q → wpAny (model X.prog X.w) X.A (isTrue e X.env (eval e X.env)) (TP X pins σ Q) X.xe s
/-- a test whatever its 'whole' is (and, or) -/
def PW (X : Cx) (e : Expr) (t : TT) : Prop :=
  ∀ (whole : Sem Value) (pins : List (Addr × Obj)) (s : Shared) (σ : St) (H : Hp) (Q : Bool → Hp → Prop), Inv X pins σ H s → t σ H Q → wpAny (model X.prog X.w) X.A (isTrue e X.env whole) (TP X pins σ Q) X.xe s
theorem PW.pt {X : Cx} {e : Expr} {t : TT} (h : PW X e t) : PT X e t := h _
/-- an argument list (no star), from the left -/
def PA (X : Cx) (es : List Expr) (t : TA) : Prop :=
  ∀ (pos : Pos) (pins : List (Addr × Obj)) (s : Shared) (σ : St) (H : Hp) (Q : List V → Hp → Prop), Inv X pins σ H s → t σ H Q → wpAny (model X.prog X.w) X.A (spliced (backTo pos (starEach es X.env))) (AP X pins σ Q) X.xe s
def PS (X : Cx) (st : Stmt) (t : TS) : Prop :=
  ∀ (pins : List (Addr × Obj)) (s : Shared) (σ : St) (H : Hp) (D : Ends), Inv X pins σ H s → t D σ H → wpAny (model X.prog X.w) X.A (exec st X.env) (SP X pins D) X.xe s
def PSs (X : Cx) (st : List Stmt) (t : TS) : Prop :=
  ∀ (pins : List (Addr × Obj)) (s : Shared) (σ : St) (H : Hp) (D : Ends), Inv X pins σ H s → t D σ H → wpAny (model X.prog X.w) X.A (execs st X.env) (SP X pins D) X.xe s
/-- weaken the end -/
theorem thn {α : Type} {t : Sem α} {Q Q' : α → Shared → Prop} {M : Model} {A : Around} {E : Value → Shared → Prop} {s : Shared} (h : wpAny M A t Q E s) (hQ : ∀ a s, Q a s → Q' a s) : wpAny M A t Q' E s := wpAny_mono h hQ fun _ _ x => x
end L2

namespace L2
open PySem PySem.Spec PyProof.Rows
section
variable {X : Cx}

/-! ### names and constants -/
def tVar (i : Nat) : TE := fun σ H Q => ∃ v, σ[i]? = some (some v) ∧ Q v H
def tC (v : V) : TE := fun _ H Q => Q v H
theorem pe_var {i : Nat} {x : Str} {pos : Pos} (hN : X.N[i]? = some x) (hv : Vis X.env.scope x) (hd : (x == ("__debug__" : Str)) = false := by decide) (hcd : (x == ("__classdict__" : Str)) = false := by decide) : PE X (.Name x pos) (tVar i) := by
  intro pins s σ H Q I h
  obtain ⟨v, e, h⟩ := h
  obtain ⟨m, hn, hl⟩ := I.loc
  obtain ⟨u, r, l⟩ := hl i x v hN e hv
  have fin : EP X pins σ Q u s := ⟨v, H, I, r, h⟩
  rcases l with ⟨hk, hm⟩ | ⟨hk, c, hc, hcell⟩
  · exact wpAny_Name (wpAny_loadName_local I.ok.kind hk hn hm fin) hd
  · rcases hk with hk | hk
    · exact wpAny_Name (wpAny_loadName_cell I.ok.kind hk hc hcell fin) hd
    · exact wpAny_Name (wpAny_loadName_free I.ok.kind hk hc hcell fin hcd) hd
theorem pe_int {i j pos} : PE X (.Constant (.int i) j pos) (tC (.int i)) := fun _ _ _ H _ I h => wpAny_Constant_int ⟨.int i, H, I.tok _, ⟨_, rfl⟩, h⟩
theorem pe_bl {b j pos} : PE X (.Constant (.bool b) j pos) (tC (.bl b)) := fun _ _ _ H _ I h => Constant_bool ⟨.bl b, H, I, rfl, h⟩
theorem pe_non {j pos} : PE X (.Constant .none j pos) (tC .non) := fun _ _ _ H _ I h => Constant_none ⟨.non, H, I, rfl, h⟩
/-- a global name of the def -/
def Gl (X : Cx) (x : Str) : Prop := X.env.kindOf x = some .globalImplicit
theorem ld_glob {E : Value → Shared → Prop} {pins : List (Addr × Obj)} {s : Shared} {σ : St} {H : Hp} {x : Str} {u : Value} {pos : Pos} {Q : Value → Shared → Prop} (I : Inv X pins σ H s) (hg : Gl X x) (hm : X.mg x = some u) (h : Q u s)
    (hd : (x == ("__debug__" : Str)) = false := by decide) : wpAny (model X.prog X.w) X.A (eval (.Name x pos) X.env) Q E s :=
  Calls.Name_function_global I.ok.kind hg (Calls.loadGlobal_global (by rw [I.ok.glob]; exact I.mod.glob.keeps I.bk) hm h) hd
theorem ld_blt {E : Value → Shared → Prop} {pins : List (Addr × Obj)} {s : Shared} {σ : St} {H : Hp} {x : Str} {u : Value} {pos : Pos} {Q : Value → Shared → Prop} (I : Inv X pins σ H s) (hg : Gl X x) (hm : X.mg x = none) (hv : bootBuiltins x = some u) (h : Q u s)
    (hn : x ≠ "__name__" := by decide) (hd : (x == ("__debug__" : Str)) = false := by decide) : wpAny (model X.prog X.w) X.A (eval (.Name x pos) X.env) Q E s := by
  obtain ⟨mb, h1, h2⟩ := I.mod.blt
  exact Calls.Name_function_global I.ok.kind hg (Calls.loadGlobal_builtin (by rw [I.ok.glob]; exact I.mod.glob.keeps I.bk) hm (by rw [I.ok.blt]; exact h1.keeps I.bk) ((h2 x hn).trans hv) h) hd
/-- a module's constant, a class, a function, as a value -/
theorem pe_glob {x : Str} {v : V} {u : Value} {pos : Pos} (hg : Gl X x) (hm : X.mg x = some u) (r : RelV v u) (hd : (x == ("__debug__" : Str)) = false := by decide) : PE X (.Name x pos) (tC v) :=
  fun _ _ _ H _ I h => ld_glob I hg hm ⟨v, H, I, r, h⟩ hd
/-! ### arithmetic -/
variable {a b : Expr} {ta tb : TE} {pos : Pos}
/-! ### comparisons -/
/-- a comparison as a value, as a test -/
def tB (t : TE) : TT := fun σ H Q => t σ H fun x H1 => ∃ c, x = .bl c ∧ Q c H1
/-- an expression whose value is a bool, as a test -/
theorem pt_val {e : Expr} {t : TE} (h : PE X e t) (he : ∀ whole, isTrue e X.env whole = (do let v ← whole; standAt e.pos; holding [v] (truthy v)) := by intro _; rfl) : PT X e (tB t) := by
  intro pins s σ H Q I hw
  refine isTrue_plain (thn (h pins s σ H _ I hw) fun v s1 ⟨x, H1, I1, r1, q1⟩ => ?_) (he _)
  obtain ⟨d, rfl, q⟩ := q1
  cases r1
  exact wpAny_truthy_bool ⟨H1, I1, q⟩

/-! ### and, or, not -/
variable {tA tB' : TT} {rest : List Expr}
def tAnd (t u : TT) : TT := fun σ H Q => t σ H fun c H1 => if c = true then u σ H1 Q else Q false H1
def tOr (t u : TT) : TT := fun σ H Q => t σ H fun c H1 => if c = true then Q true H1 else u σ H1 Q
def tNot (t : TT) : TT := fun σ H Q => t σ H fun c H1 => Q (!c) H1
theorem pw_and1 (ha : PT X a tA) : PW X (.BoolOp .And [a] pos) tA := by
  intro wh pins s σ H Q I h
  refine isTrue_and (thn (ha pins s σ H Q I h) fun c s1 e => ?_)
  cases c with
  | true => exact isTrue_and_nil e
  | false => exact e
theorem pw_or1 (ha : PT X a tA) : PW X (.BoolOp .Or [a] pos) tA := by
  intro wh pins s σ H Q I h
  refine isTrue_or (thn (ha pins s σ H Q I h) fun c s1 e => ?_)
  cases c with
  | false => exact isTrue_or_nil e
  | true => exact e
theorem pw_and (ha : PT X a tA) (hb : PW X (.BoolOp .And (b :: rest) pos) tB') : PW X (.BoolOp .And (a :: b :: rest) pos) (tAnd tA tB') := by
  intro wh pins s σ H Q I h
  refine isTrue_and (thn (ha pins s σ H _ I h) fun c s1 ⟨H1, I1, q1⟩ => ?_)
  cases c with
  | true => exact hb wh pins s1 σ H1 Q I1 q1
  | false => exact ⟨H1, I1, q1⟩
theorem pw_or (ha : PT X a tA) (hb : PW X (.BoolOp .Or (b :: rest) pos) tB') : PW X (.BoolOp .Or (a :: b :: rest) pos) (tOr tA tB') := by
  intro wh pins s σ H Q I h
  refine isTrue_or (thn (ha pins s σ H _ I h) fun c s1 ⟨H1, I1, q1⟩ => ?_)
  cases c with
  | true => exact ⟨H1, I1, q1⟩
  | false => exact hb wh pins s1 σ H1 Q I1 q1
theorem pt_not (ha : PT X a tA) : PT X (.UnaryOp .Not a pos) (tNot tA) := by
  intro pins s σ H Q I h
  exact isTrue_not (ha pins s σ H (fun c H1 => Q (!c) H1) I h)
/-- .. as values (bools) -/
def tAndV (ta tb : TE) : TE := fun σ H Q => ta σ H fun x H1 => ∃ c, x = .bl c ∧ if c = true then tb σ H1 Q else Q (.bl false) H1
def tOrV (ta tb : TE) : TE := fun σ H Q => ta σ H fun x H1 => ∃ c, x = .bl c ∧ if c = true then Q (.bl true) H1 else tb σ H1 Q
theorem pe_one {op} {t : TE} (h : PE X a t) : PE X (.BoolOp op [a] pos) t := fun pins s σ H Q I hw => BoolOp_one (h pins s σ H Q I hw)
theorem pe_and (ha : PE X a ta) (hb : PE X (.BoolOp .And (b :: rest) pos) tb) : PE X (.BoolOp .And (a :: b :: rest) pos) (tAndV ta tb) := by
  intro pins s σ H Q I h
  refine BoolOp_and (thn (ha pins s σ H _ I h) fun v s1 ⟨x, H1, I1, r1, q1⟩ => ?_)
  obtain ⟨c, rfl, q1⟩ := q1
  cases r1
  refine wpAny_truthy_bool ?_
  cases c with
  | true => exact hb pins s1 σ H1 Q I1 q1
  | false => exact ⟨.bl false, H1, I1, rfl, q1⟩
theorem pe_or (ha : PE X a ta) (hb : PE X (.BoolOp .Or (b :: rest) pos) tb) : PE X (.BoolOp .Or (a :: b :: rest) pos) (tOrV ta tb) := by
  intro pins s σ H Q I h
  refine BoolOp_or (thn (ha pins s σ H _ I h) fun v s1 ⟨x, H1, I1, r1, q1⟩ => ?_)
  obtain ⟨c, rfl, q1⟩ := q1
  cases r1
  refine wpAny_truthy_bool ?_
  cases c with
  | false => exact hb pins s1 σ H1 Q I1 q1
  | true => exact ⟨.bl true, H1, I1, rfl, q1⟩
end
end L2

namespace L2
open PySem PySem.Spec PyProof.Rows

/-! ### a list, a tuple that is read: tracked, frozen, or an object of the module -/
def SqL (K : PySem.W.Frag) (H : Hp) (a : Addr) (xs : List V) : Prop :=
  Rd H a (.lst xs) ∨
    ∃ (o : Obj) (its : Array Value) (n : Nat), K.lookup a = some o ∧ o.cls = .type "list" ∧ o.dict = none ∧ o.data = .seq its n ∧ its.size ≤ sizeLine ∧ Vals xs its.toList
def SqT (K : PySem.W.Frag) (H : Hp) (a : Addr) (xs : List V) : Prop :=
  Rd H a (.tup xs) ∨
    ∃ (o : Obj) (its : Array Value) (n : Nat), K.lookup a = some o ∧ o.cls = .type "tuple" ∧ o.data = .seq its n ∧ its.size ≤ sizeLine ∧ Vals xs its.toList
def absV : Value → Option V
  | .none => some .non
  | .bool b => some (.bl b)
  | .int i _ => some (.int i)
  | .str x _ => some (.str x)
  | .bytes b _ => some (.byt b)
  | .float b _ => some (.flt b)
  | .ref a => some (.ref a)
  | .type n => some (.ty n)
  | _ => none
theorem RelV.abs {x : V} {u : Value} (r : RelV x u) : absV u = some x := by
  cases x with
  | non => cases r; rfl
  | bl _ => cases r; rfl
  | int _ => obtain ⟨t, rfl⟩ := r; rfl
  | str _ => obtain ⟨t, rfl⟩ := r; rfl
  | byt _ => obtain ⟨t, rfl⟩ := r; rfl
  | flt _ => obtain ⟨t, rfl⟩ := r; rfl
  | ref _ => cases r; rfl
  | ty _ => cases r; rfl
theorem RelV.inj {x y : V} {u : Value} (r : RelV x u) (q : RelV y u) : x = y := Option.some.inj (r.abs.symm.trans q.abs)
theorem Vals.inj : ∀ {xs ys : List V} {us : List Value}, Vals xs us → Vals ys us → xs = ys
  | _, _, _, .nil, .nil => rfl
  | _, _, _, .cons r t, .cons r' t' => by rw [r.inj r', Vals.inj t t']
section
variable {X : Cx} {pins : List (Addr × Obj)} {σ : St} {H : Hp} {s : Shared} {a : Addr} {xs ys : List V}
theorem SqL.of {K : PySem.W.Frag} (h : H a = some (.lst xs)) : SqL K H a xs := .inl (.inl h)
theorem SqT.of {K : PySem.W.Frag} (h : H a = some (.tup xs)) : SqT K H a xs := .inl (.inl h)
theorem Inv.list (I : Inv X pins σ H s) (h : SqL X.K H a xs) : ∃ its : List Value, Vals xs its ∧ PlainL s.heap a its.toArray ∧ xs.length ≤ sizeLine := by
  rcases h with h | ⟨o, its, n, hk, hc, hd, hs, hz, r⟩
  · obtain ⟨z, its, n, r, e⟩ := h.ok I.hok
    exact ⟨its, r, ⟨_, n, e, rfl, rfl, rfl⟩, z⟩
  · refine ⟨its.toList, r, ⟨o, n, I.kIn a o hk, hc, hd, by simpa using hs⟩, ?_⟩
    have e := r.length
    simp only [Array.length_toList] at e
    omega
theorem Inv.tuple (I : Inv X pins σ H s) (h : SqT X.K H a xs) : ∃ its : List Value, Vals xs its ∧ IsTup s.heap a its.toArray ∧ xs.length ≤ sizeLine := by
  rcases h with h | ⟨o, its, n, hk, hc, hs, hz, r⟩
  · obtain ⟨z, its, r, p⟩ := h.ok I.hok
    exact ⟨its, r, p, z⟩
  · refine ⟨its.toList, r, ⟨o, I.kIn a o hk, hc, n, by simpa using hs⟩, ?_⟩
    have e := r.length
    simp only [Array.length_toList] at e
    omega
theorem Inv.list_inj (I : Inv X pins σ H s) (h : SqL X.K H a xs) (h' : SqL X.K H a ys) : xs = ys := by
  obtain ⟨its, r, ⟨o, n, e, _, _, d⟩, _⟩ := I.list h
  obtain ⟨its', r', ⟨o', n', e', _, _, d'⟩, _⟩ := I.list h'
  rw [e] at e'; cases e'
  rw [d] at d'
  injection d' with d1 _
  have : its = its' := by simpa using congrArg Array.toList d1
  subst this
  exact r.inj r'
end

/-! ### another wish about exceptions -/
abbrev Cx.wish (X : Cx) (E : Value → Shared → Prop) : Cx := { X with xe := E }
/-- no exception leaves -/
abbrev Cx.nox (X : Cx) : Cx := X.wish fun _ _ => False
theorem Cx.Ok.wish {X : Cx} (ok : X.Ok) (E : Value → Shared → Prop) : (X.wish E).Ok :=
  ⟨ok.mod, ok.kind, ok.glob, ok.blt, ok.above, ok.inj, ok.has, ok.cab, ok.hd, ok.frames, ok.stk, ok.exf, ok.bs, ok.bsz, ok.noex, ok.exfs, ok.funs, ok.frf⟩
theorem Cx.Ok.unwish {X : Cx} {E : Value → Shared → Prop} (ok : (X.wish E).Ok) : X.Ok :=
  ⟨ok.mod, ok.kind, ok.glob, ok.blt, ok.above, ok.inj, ok.has, ok.cab, ok.hd, ok.frames, ok.stk, ok.exf, ok.bs, ok.bsz, ok.noex, ok.exfs, ok.funs, ok.frf⟩
section
variable {X : Cx} {pins : List (Addr × Obj)} {σ : St} {H : Hp} {s : Shared} {E : Value → Shared → Prop}
theorem Inv.wish (I : Inv X pins σ H s) (E : Value → Shared → Prop) : Inv (X.wish E) pins σ H s := ⟨I.ok.wish E, I.os, I.bare, I.base, I.loc, I.cell, I.free, I.freeC, I.pin, I.hok, I.len⟩
theorem Inv.unwish (I : Inv (X.wish E) pins σ H s) : Inv X pins σ H s := ⟨I.ok.unwish, I.os, I.bare, I.base, I.loc, I.cell, I.free, I.freeC, I.pin, I.hok, I.len⟩
theorem SP.unwish {D : Ends} {f : Flow} {s' : Shared} (h : SP (X.wish E) pins D f s') : SP X pins D f s' := by
  cases f with
  | next => obtain ⟨σ', H', I, q⟩ := h; exact ⟨σ', H', I.unwish, q⟩
  | brk => obtain ⟨σ', H', I, q⟩ := h; exact ⟨σ', H', I.unwish, q⟩
  | cont => obtain ⟨σ', H', I, q⟩ := h; exact ⟨σ', H', I.unwish, q⟩
  | ret u => obtain ⟨v, σ', H', I, r, q⟩ := h; exact ⟨v, σ', H', I.unwish, r, q⟩
theorem PSs.nox {st : List Stmt} {t : TS} (h : PSs X.nox st t) : PSs X st t := fun pins s σ H D I hw =>
  wpAny_mono (h pins s σ H D (I.wish _) hw) (fun _ _ q => q.unwish) fun _ _ z => False.elim z
end

/-! ### blocks and small statements -/
section
variable {X : Cx} {st : Stmt} {rest : List Stmt} {t u : TS} {e : Expr} {te : TE} {pos : Pos}
def tNext : TS := fun D σ H => D.nx σ H
def tSeq (t u : TS) : TS := fun D σ H => t { D with nx := u D } σ H
theorem pss_nil : PSs X [] tNext := fun _ _ σ H _ I h => wpAny_execs_nil ⟨σ, H, I, h⟩
theorem pss_cons (h1 : PS X st t) (h2 : PSs X rest u) : PSs X (st :: rest) (tSeq t u) := by
  intro pins s σ H D I h
  refine wpAny_execs_cons (thn (h1 pins s σ H { D with nx := u D } I h) fun f s1 q => ?_)
  cases f with
  | next =>
    obtain ⟨σ', H', I', q⟩ := q
    exact h2 pins s1 σ' H' D I' q
  | ret v => exact q
  | brk => exact q
  | cont => exact q
theorem pss_one (h1 : PS X st t) : PSs X [st] t := by
  intro pins s σ H D I h
  refine wpAny_execs_cons (thn (h1 pins s σ H D I h) fun f s1 q => ?_)
  cases f with
  | next => exact wpAny_execs_nil q
  | ret v => exact q
  | brk => exact q
  | cont => exact q
/-- in a def's body nothing is shown -/
theorem Inv.quiet {pins : List (Addr × Obj)} {σ : St} {H : Hp} {s : Shared} (I : Inv X pins σ H s) : interactive X.env = false := by simp [interactive, I.ok.kind]
/-- an expression whose value is dropped -/
def tDrop (te : TE) : TS := fun D σ H => te σ H fun _ H1 => D.nx σ H1
theorem ps_expr (he : PE X e te) (hs : swapsWith e none pos.line X.env = pure false := by rfl) : PS X (.Expr e pos) (tDrop te) := by
  intro pins s σ H D I h
  exact wpAny_Expr_any (thn (he pins s σ H _ I h) fun v s1 ⟨x, H1, I1, r1, q1⟩ => ⟨σ, H1, I1, q1⟩) I.quiet hs
def tRet (te : TE) : TS := fun D σ H => te σ H D.rt
theorem ps_ret (he : PE X e te) : PS X (.Return (some e) pos) (tRet te) := by
  intro pins s σ H D I h
  exact wpAny_Return_some (thn (he pins s σ H _ I h) fun v s1 ⟨x, H1, I1, r1, q1⟩ => ⟨x, σ, H1, I1, r1, q1⟩)
def tIfS (c : TT) (t u : TS) : TS := fun D σ H => c σ H fun b H1 => if b = true then t D σ H1 else u D σ H1
theorem ps_if {c : Expr} {a b : List Stmt} {tc : TT} (hc : PT X c tc) (ha : PSs X a t) (hb : PSs X b u) : PS X (.If c a b pos) (tIfS tc t u) := by
  intro pins s σ H D I h
  refine wpAny_If (thn (hc pins s σ H _ I h) fun d s1 ⟨H1, I1, q1⟩ => ?_)
  cases d with
  | true => exact ha pins s1 σ H1 D I1 q1
  | false => exact hb pins s1 σ H1 D I1 q1
/-- code that the proof never comes to -/
def tNever : TS := fun _ _ _ => False
theorem ps_never : PS X st tNever := fun _ _ _ _ _ _ h => h.elim
end

/-! ### targets -/
abbrev TG := V → St → Hp → (St → Hp → Prop) → Prop
abbrev TGs := List V → St → Hp → (St → Hp → Prop) → Prop
def PG (X : Cx) (target : Expr) (t : TG) : Prop :=
  ∀ (pins : List (Addr × Obj)) (s : Shared) (σ : St) (H : Hp) (v : V) (u : Value) (Q : St → Hp → Prop), Inv X pins σ H s → RelV v u → t v σ H Q →
    wpAny (model X.prog X.w) X.A (assign target X.env u) (fun _ s' => ∃ σ' H', Inv X pins σ' H' s' ∧ Q σ' H') X.xe s
/-- several targets, one after another -/
def PGs (X : Cx) (ts : List Expr) (t : TGs) : Prop :=
  ∀ (pins : List (Addr × Obj)) (s : Shared) (σ : St) (H : Hp) (vs : List V) (us : List Value) (Q : St → Hp → Prop), Inv X pins σ H s → Vals vs us → t vs σ H Q →
    wpAny (model X.prog X.w) X.A (assignInOrder ((assignEach ts X.env).map (·.2)) us) (fun _ s' => ∃ σ' H', Inv X pins σ' H' s' ∧ Q σ' H') X.xe s
/-- o[i] = v, by values -/
abbrev TSet := V → V → V → Hp → (Hp → Prop) → Prop
def PSet (X : Cx) (t : TSet) : Prop :=
  ∀ (pins : List (Addr × Obj)) (s : Shared) (σ : St) (H : Hp) (o i v : V) (ov iv u : Value) (Q : Hp → Prop), Inv X pins σ H s → RelV o ov → RelV i iv → RelV v u → t o i v H Q →
    wpAny (model X.prog X.w) X.A (setItem ov iv u) (fun _ s' => ∃ H', Inv X pins σ H' s' ∧ Q H') X.xe s
/-- a op= b, by values -/
abbrev TIp := V → V → Hp → VK → Prop
def PIp (X : Cx) (op : Operator) (t : TIp) : Prop :=
  ∀ (pins : List (Addr × Obj)) (s : Shared) (σ : St) (H : Hp) (x y : V) (v u : Value) (Q : VK), Inv X pins σ H s → RelV x v → RelV y u → t x y H Q →
    wpAny (model X.prog X.w) X.A (inplaceOp op v u) (EP X pins σ Q) X.xe s
section
variable {X : Cx} {pos : Pos}
def gName (i : Nat) : TG := fun v σ H Q => Q (σ.set i (some v)) H
theorem pg_name {i : Nat} {x : Str} (hN : X.N.Nodup) (hi : X.N[i]? = some x) (hx : Loc X.env.scope x) (hf : X.fn x = true ∨ X.env.scope.names.lookup x = some .local := by first | exact .inl rfl | exact .inr rfl | assumption) : PG X (.Name x pos) (gName i) := by
  intro pins s σ H v u Q I r h
  exact wpAny_assign_Name (store_ok I hN hi hx r (fun s' I' => ⟨_, H, I', h⟩) hf)
def gNil : TGs := fun vs σ H Q => vs = [] ∧ Q σ H
def gCons (t : TG) (u : TGs) : TGs := fun vs σ H Q => ∃ v r, vs = v :: r ∧ t v σ H fun σ' H' => u r σ' H' Q
theorem pgs_nil : PGs X [] gNil := by
  intro pins s σ H vs us Q I r h
  obtain ⟨e, h⟩ := h
  subst e
  cases r
  exact assignInOrder_nil ⟨σ, H, I, h⟩
theorem pgs_cons {e : Expr} {es : List Expr} {t : TG} {u : TGs} (h1 : PG X e t) (h2 : PGs X es u)
    (hs : (assignEach (e :: es) X.env).map (·.2) = assign e X.env :: (assignEach es X.env).map (·.2) := by rfl) : PGs X (e :: es) (gCons t u) := by
  intro pins s σ H vs us Q I r h
  obtain ⟨v, vr, e1, h⟩ := h
  subst e1
  cases r with
  | cons r rr =>
    rw [hs]
    refine assignInOrder_cons (thn (h1 pins s σ H _ _ _ I r h) fun _ s1 ⟨σ1, H1, I1, q1⟩ => ?_)
    exact h2 pins s1 σ1 H1 _ _ Q I1 rr q1
/-- (a, b, ..) = a tuple of that length -/
def gTup (K : PySem.W.Frag) (n : Nat) (t : TGs) : TG := fun v σ H Q => ∃ a xs, v = .ref a ∧ SqT K H a xs ∧ xs.length = n ∧ t xs σ H Q
theorem pg_tup {es : List Expr} {k : Nat} {t : TGs} {n : Nat} (hc : X.calm = true) (h : PGs X es t)
    (hn : (assignEach es X.env).length = n := by rfl) (hst : (assignEach es X.env).findIdx? (·.1) = none := by rfl) : PG X (.Tuple es k pos) (gTup X.K n t) := by
  intro pins s σ H v u Q I r hw
  obtain ⟨a, xs, e1, hq, hl, hw⟩ := hw
  subst e1
  cases r
  obtain ⟨its, rv, ht, hz⟩ := I.tuple hq
  refine assign_Tuple_tuple (I.ok.hd hc) ht (by simp [hn, ← hl, rv.length]) hst fun h' hx => ?_
  have I1 : Inv X pins σ H { s with heap := h' } := I.kept (t' := s.toks) fun b o e => hx b o (Nat.ne_of_lt (Heap.lt_size e)) e
  exact h pins _ σ H xs _ Q I1 (by simpa using rv) hw
/-- o[i] = .. -/
def gSub (to ti : TE) (t : TSet) : TG := fun v σ H Q => to σ H fun o H1 => ti σ H1 fun i H2 => t o i v H2 fun H3 => Q σ H3
theorem pg_sub {o i : Expr} {to ti : TE} {t : TSet} (ho : PE X o to) (hi : PE X i ti) (hs : PSet X t)
    (ha : ∀ v, assign (.Subscript o i pos) X.env v = (do
      let ov ← holding [v] (eval o X.env)
      let iv ← holding [v, ov] (eval i X.env)
      standAt pos
      holding [v, ov, iv] (setItem ov iv v)
      release [v, ov, iv] []) := by intro _; rfl) : PG X (.Subscript o i pos) (gSub to ti t) := by
  intro pins s σ H v u Q I r h
  rw [ha]
  refine wpAny_bind (wpAny_holding (thn (ho pins s σ H _ I h) fun ov s1 ⟨x, H1, I1, r1, q1⟩ => ?_))
  refine wpAny_bind (wpAny_holding (thn (hi pins s1 σ H1 _ I1 q1) fun iv s2 ⟨y, H2, I2, r2, q2⟩ => ?_))
  refine wpAny_bind (wpAny_standAt (wpAny_bind (wpAny_holding (thn (hs pins s2 σ H2 x y v ov iv u _ I2 r1 r2 r q2) fun _ s3 ⟨H3, I3, q3⟩ => ?_))))
  exact wpAny_release ⟨σ, H3, I3, q3⟩
/-- target = value -/
def tAsg (te : TE) (g : TG) : TS := fun D σ H => te σ H fun x H1 => g x σ H1 D.nx
theorem ps_asg {tg e : Expr} {te : TE} {g : TG} (he : PE X e te) (hg : PG X tg g) (hs : swapsWithSole [tg] e pos.line X.env = pure false := by rfl) (hw : swappedStores [tg] e X.env = pure none := by rfl)
    (h1 : (assignEach [tg] X.env).map (·.2) = [assign tg X.env] := by rfl) : PS X (.Assign [tg] e pos) (tAsg te g) := by
  intro pins s σ H D I h
  refine wpAny_Assign_stores (thn (he pins s σ H _ I h) fun v s1 ⟨x, H1, I1, r1, q1⟩ => ?_) hs hw
  rw [h1]
  exact thn (hg pins s1 σ H1 x v _ I1 r1 q1) fun _ s2 q => q
/-- name = value -/
theorem ps_set {i : Nat} {x : Str} {e : Expr} {te : TE} {pos' : Pos} (hN : X.N.Nodup) (hi : X.N[i]? = some x) (hx : Loc X.env.scope x) (he : PE X e te) (hs : swapsWith e (some (.Name x pos')) pos.line X.env = pure false := by rfl) (hf : X.fn x = true ∨ X.env.scope.names.lookup x = some .local := by first | exact .inl rfl | exact .inr rfl | assumption) :
    PS X (.Assign [.Name x pos'] e pos) (tAsg te (gName i)) := by
  intro pins s σ H D I h
  refine wpAny_Assign_Name (thn (he pins s σ H _ I h) fun v s1 ⟨y, H1, I1, r1, q1⟩ => ?_) hs
  exact store_ok I1 hN hi hx r1 (fun s2 I2 => ⟨_, H1, I2, q1⟩) hf
/-- name op= e -/
def tAug (i : Nat) (te : TE) (ti : TIp) : TS := fun D σ H => ∃ x, σ[i]? = some (some x) ∧ te σ H fun y H1 => ti x y H1 fun z H2 => D.nx (σ.set i (some z)) H2
theorem ps_aug {i : Nat} {x : Str} {e : Expr} {te : TE} {op : Operator} {ti : TIp} {pos' : Pos} (hN : X.N.Nodup) (hi : X.N[i]? = some x) (hx : Loc X.env.scope x) (he : PE X e te) (ho : PIp X op ti) (hf : X.fn x = true ∨ X.env.scope.names.lookup x = some .local := by first | exact .inl rfl | exact .inr rfl | assumption) :
    PS X (.AugAssign (.Name x pos') op e pos) (tAug i te ti) := by
  intro pins s σ H D I h
  obtain ⟨v, e1, h⟩ := h
  obtain ⟨m, hn, hl⟩ := I.loc
  have vis : Vis X.env.scope x := by rcases hx with k | k; exact .inl k; exact .inr (.inl k)
  obtain ⟨u, r, l⟩ := hl i x v hi e1 vis
  refine wpAny_AugAssign_Name ?_
  have go : wpAny (model X.prog X.w) X.A (eval e X.env) (fun w s₂ => wpAny (model X.prog X.w) X.A (inplaceOp op u w) (fun r s₃ => wpAny (model X.prog X.w) X.A (storeName X.env x r) (fun _ => SP X pins D .next) X.xe s₃) X.xe s₂) X.xe s := by
    refine thn (he pins s σ H _ I h) fun w s1 ⟨y, H1, I1, r1, q1⟩ => ?_
    refine thn (ho pins s1 σ H1 v y u w _ I1 r r1 q1) fun z s2 ⟨zv, H2, I2, r2, q2⟩ => ?_
    exact store_ok I2 hN hi hx r2 (fun s3 I3 => ⟨_, H2, I3, q2⟩) hf
  rcases l with ⟨hk, hm⟩ | ⟨hk, c, hc, hcell⟩
  · exact wpAny_loadName_local I.ok.kind hk hn hm go
  · rcases hk with hk | hk
    · exact wpAny_loadName_cell I.ok.kind hk hc hcell go
    · rcases hx with k | k
      · have : X.env.scope.names.lookup x = some .free := hk
        rw [k] at this; cases this
      · have : X.env.scope.names.lookup x = some .free := hk
        rw [k] at this; cases this
/-- o[i] op= e -/
def tAugS (to ti te : TE) (tget : V → V → Hp → VK → Prop) (tip : TIp) (tset : TSet) : TS := fun D σ H => to σ H fun o H1 => ti σ H1 fun i H2 => tget o i H2 fun x H3 => te σ H3 fun y H4 => tip x y H4 fun z H5 => tset o i z H5 fun H6 => D.nx σ H6
/-- o[i], by values -/
def PGet (X : Cx) (t : V → V → Hp → VK → Prop) : Prop :=
  ∀ (pins : List (Addr × Obj)) (s : Shared) (σ : St) (H : Hp) (o i : V) (ov iv : Value) (Q : VK), Inv X pins σ H s → RelV o ov → RelV i iv → t o i H Q →
    wpAny (model X.prog X.w) X.A (getItem ov iv) (EP X pins σ Q) X.xe s
theorem ps_augS {o i e : Expr} {to ti te : TE} {tget : V → V → Hp → VK → Prop} {tip : TIp} {tset : TSet} {op : Operator} {tpos : Pos} (ho : PE X o to) (hi : PE X i ti) (hg : PGet X tget) (he : PE X e te) (hp : PIp X op tip) (hs : PSet X tset)
    (ha : ∀ ov iv new, augStore i ov iv new = (do holding [new, ov, iv] (setItem ov iv new); release [new, ov, iv] []; pure .next) := by intros; rfl) : PS X (.AugAssign (.Subscript o i tpos) op e pos) (tAugS to ti te tget tip tset) := by
  intro pins s σ H D I h
  refine wpAny_AugAssign_SubscriptAny (thn (ho pins s σ H _ I h) fun ov s1 ⟨x1, H1, I1, r1, q1⟩ => ?_) ha
  refine thn (hi pins s1 σ H1 _ I1 q1) fun iv s2 ⟨x2, H2, I2, r2, q2⟩ => ?_
  refine thn (hg pins s2 σ H2 x1 x2 ov iv _ I2 r1 r2 q2) fun old s3 ⟨x3, H3, I3, r3, q3⟩ => ?_
  refine thn (he pins s3 σ H3 _ I3 q3) fun v s4 ⟨x4, H4, I4, r4, q4⟩ => ?_
  refine thn (hp pins s4 σ H4 x3 x4 old v _ I4 r3 r4 q4) fun new s5 ⟨x5, H5, I5, r5, q5⟩ => ?_
  exact thn (hs pins s5 σ H5 x1 x2 x5 ov iv new _ I5 r1 r2 r5 q5) fun _ s6 ⟨H6, I6, q6⟩ => ⟨σ, H6, I6, q6⟩
/-- ints -/
def ipI (f : Int → Int → Int) : TIp := fun x y H Q => ∃ i j, x = .int i ∧ y = .int j ∧ Q (.int (f i j)) H
theorem ip_add : PIp X .Add (ipI fun i j => i + j) := by
  intro pins s σ H x y v u Q I r1 r2 h
  obtain ⟨i, j, e1, e2, q⟩ := h
  subst e1; subst e2
  obtain ⟨t, rfl⟩ := r1
  obtain ⟨t', rfl⟩ := r2
  exact iadd_int ⟨.int _, H, I.tok _, ⟨_, rfl⟩, q⟩
end

/-! ### while -/
section
variable {X : Cx} {pos : Pos}
/-- the invariant W with its measure -/
def tWhile (c : TT) (tb : TS) : TS := fun D σ H => ∃ W : Nat → St → Hp → Prop, (∃ m, W m σ H) ∧ ∀ m σ H, W m σ H →
  c σ H fun b H1 => if b = true then ∃ N : St → Hp → Prop, (∀ σ' H', N σ' H' → ∃ m', m' < m ∧ W m' σ' H') ∧ tb { D with nx := N, ct := N, bk := D.nx } σ H1 else D.nx σ H1
theorem ps_while {c : Expr} {body : List Stmt} {tc : TT} {tb : TS} (hp : PassesOwn (model X.prog X.w) X.A X.env X.xe) (hc : PT X c tc) (hb : PSs X body tb) : PS X (.While c body [] pos) (tWhile tc tb) := by
  intro pins s σ H D I h
  obtain ⟨W, ⟨m0, w0⟩, turn⟩ := h
  refine wpAny_While (codeAny_whileLoop (fun n s' => ∃ σ' H', Inv X pins σ' H' s' ∧ W n σ' H') ?_ m0 ⟨σ, H, I, w0⟩)
  rintro n s1 ⟨σ1, H1, I1, w1⟩
  refine wpAny_passesOwn hp (thn (hc pins s1 σ1 H1 _ I1 (turn n σ1 H1 w1)) fun b s2 ⟨H2, I2, q2⟩ => ?_)
  cases b with
  | true =>
    obtain ⟨N, hN, q2⟩ := q2
    rw [if_pos rfl]
    refine wpAny_passesOwn hp (thn (hb pins s2 σ1 H2 _ I2 q2) fun f s3 q3 => ?_)
    cases f with
    | next =>
      obtain ⟨σ3, H3, I3, n3⟩ := q3
      obtain ⟨m', hm, w3⟩ := hN σ3 H3 n3
      exact ⟨m', hm, σ3, H3, I3, w3⟩
    | cont =>
      obtain ⟨σ3, H3, I3, n3⟩ := q3
      obtain ⟨m', hm, w3⟩ := hN σ3 H3 n3
      exact ⟨m', hm, σ3, H3, I3, w3⟩
    | brk => exact q3
    | ret v => exact q3
  | false =>
    rw [if_neg Bool.false_ne_true]
    exact wpAny_execs_nil ⟨σ1, H2, I2, q2⟩
end

/-! ### what a loop or a comprehension walks -/
/-- at turn i: it yields x (the heap may grow), or it stops -/
structure It where
  go : Nat → Hp → Prop
  yld : Nat → Hp → V → Hp → Prop
  stop : Nat → Hp → Prop
/-- the iterator's own objects may turn: they are not the frame's, not pinned, younger than the entry (or a comprehension's own) -/
def FpOk (X : Cx) (pins : List (Addr × Obj)) (H : Hp) (b : Addr) : Prop :=
  H b = none ∧ b ≠ X.env.locals ∧ b ∉ X.fs ∧ (b ∈ X.ex ∨ X.s_0.heap.objs.size ≤ b) ∧ (∀ x c, X.env.cells.lookup x = some c → c ≠ b) ∧ ∀ p ∈ X.pn ++ pins, p.1 ≠ b
theorem Inv.fpOk {X : Cx} {pins : List (Addr × Obj)} {σ : St} {H H' : Hp} {s : Shared} {b : Addr} (I : Inv X pins σ H s) (hb : s.heap.objs.size ≤ b) (hn : H' b = none) : FpOk X pins H' b := by
  refine ⟨hn, Nat.ne_of_gt (Nat.lt_of_lt_of_le I.lt hb), I.nofs hb, .inr (Nat.le_trans I.sz hb), fun x c e z => ?_, fun p hp z => ?_⟩
  · obtain ⟨v, q⟩ := I.cell x c e
    exact absurd (Nat.lt_of_lt_of_le q.lt (by rw [z]; exact hb)) (Nat.lt_irrefl _)
  · exact absurd (Nat.lt_of_lt_of_le (Heap.lt_size (I.pin p hp).1) (by rw [z]; exact hb)) (Nat.lt_irrefl _)
structure Turn (P : Program) (w : World) (K : PySem.W.Frag) (tg : Expr) (J : It) (fp : List Addr) (it : Addr) (tn : Nat → Heap → Prop) : Prop where
  mem : it ∈ fp
  obj : ∀ i h, tn i h → ∀ b ∈ fp, ∃ o, h.get? b = some o ∧ ∀ v, o.data ≠ .cell v
  keep : ∀ i h h', tn i h → (∀ b ∈ fp, ∀ o, h.get? b = some o → h'.get? b = some o) → tn i h'
  item : ∀ (X : Cx), X.prog = P → X.w = w → X.K = K → X.calm = true → ∀ (i : Nat) (pins : List (Addr × Obj)) (s : Shared) (σ : St) (H : Hp) (E : Value → Shared → Prop), Inv X pins σ H s → (∀ b ∈ fp, FpOk X pins H b) → tn i s.heap → J.go i H →
    wpAny (model P w) X.A (pyNext (.ref it)) (fun r s1 => ∃ u, r = some u ∧
      wpAny (model P w) X.A (letOwnedTupleGo tg (.ref it) u) (fun _ s2 => ∃ x H', Inv X pins σ H' s2 ∧ RelV x u ∧ J.yld i H x H' ∧ tn (i + 1) s2.heap ∧ ∀ b ∈ fp, H' b = none) E s1) E s
  done : ∀ (X : Cx), X.prog = P → X.w = w → X.K = K → X.calm = true → ∀ (i : Nat) (pins : List (Addr × Obj)) (s : Shared) (σ : St) (H : Hp) (E : Value → Shared → Prop), Inv X pins σ H s → (∀ b ∈ fp, FpOk X pins H b) → tn i s.heap → J.stop i H →
    wpAny (model P w) X.A (pyNext (.ref it)) (fun r s1 => r = none ∧ Inv X pins σ H s1) E s
  self : ∀ (A : Around) (i : Nat) (s : Shared) (Q : Value → Shared → Prop) (E : Value → Shared → Prop), tn i s.heap → Q (.ref it) s → wpAny (model P w) A (pyIter (.ref it)) Q E s
abbrev TI := St → Hp → (It → Hp → Prop) → Prop
/-- an iterator has come -/
def PIE (X : Cx) (pins : List (Addr × Obj)) (σ : St) (tg : Expr) (R : It → Hp → Prop) (itv : Value) (s2 : Shared) : Prop :=
  ∃ (it : Addr) (fp : List Addr) (tn : Nat → Heap → Prop) (J : It) (H' : Hp), itv = .ref it ∧ Inv X pins σ H' s2 ∧ Turn X.prog X.w X.K tg J fp it tn ∧ tn 0 s2.heap ∧ (∀ b ∈ fp, FpOk X pins H' b) ∧ R J H'
def PI (X : Cx) (tg iter : Expr) (wi : TI) : Prop :=
  ∀ (pins : List (Addr × Obj)) (s : Shared) (σ : St) (H : Hp) (R : It → Hp → Prop), Inv X pins σ H s → wi σ H R →
    wpAny (model X.prog X.w) X.A (eval iter X.env) (fun v s1 => wpAny (model X.prog X.w) X.A (pyIter v) (PIE X pins σ tg R) X.xe s1) X.xe s

/-- the step ahead of the store is nothing for an iterator that keeps no tuple -/
theorem go_of {M : Model} {A : Around} {E : Value → Shared → Prop} {s : Shared} {tg : Expr} {it : Addr} {u : Value} {o : Obj} {n : String} {vs : Array Value} {Q : Unit → Shared → Prop} (ho : s.heap.get? it = some o) (hc : o.cls = .type n) (hd : o.data = .fields vs)
    (hn : ["enumerate", "zip", "dict_itemiterator", "dict_reverseitemiterator", "odict_iterator", "itertools.zip_longest", "itertools.pairwise"].contains n = false) (hQ : Q () s) : wpAny M A (letOwnedTupleGo tg (.ref it) u) Q E s := by
  unfold letOwnedTupleGo
  cases tg <;> first
    | exact wpAny_pure hQ
    | (cases u <;> first
        | exact wpAny_pure hQ
        | (refine wpAny_bind (wpAny_load ho ?_)
           rw [hc, hd]
           show wpAny M A (if (["enumerate", "zip", "dict_itemiterator", "dict_reverseitemiterator", "odict_iterator", "itertools.zip_longest", "itertools.pairwise"].contains n && vs[0]? == some (rawInt _)) = true then _ else _) Q E s
           rw [if_neg (by intro h; rw [hn, Bool.false_and] at h; cases h)]
           exact wpAny_pure hQ))

/-- the list at a, as it stands at each turn (a loop may append to it) -/
def Itl (K : PySem.W.Frag) (a : Addr) : It :=
  ⟨fun i H => ∃ xs x, SqL K H a xs ∧ xs[i]? = some x, fun i H x H' => H' = H ∧ ∀ xs, SqL K H a xs → xs[i]? = some x, fun i H => ∃ xs, SqL K H a xs ∧ xs.length ≤ i⟩
/-- lo, lo + 1, .. (n of them) -/
def Itr (lo : Int) (n : Nat) : It := ⟨fun i _ => i < n, fun i H x H' => H' = H ∧ x = .int (lo + i), fun i _ => n ≤ i⟩
theorem turn_list {P : Program} {w : World} {K : PySem.W.Frag} {tg : Expr} (a it : Addr) : Turn P w K tg (Itl K a) [it] it (fun i h => h.IsListIter it a i) where
  mem := by simp
  obj := fun i h st b hb => by
    have e : b = it := by simpa using hb
    subst e
    obtain ⟨o, e, c, d⟩ := st
    exact ⟨o, e, fun v z => by rw [d] at z; cases z⟩
  keep := fun i h h' st k => st.at fun o e => k it (by simp) o e
  item := by
    intro X hP hw hK hc i pins s σ H E I hf st hg
    subst hP hw hK
    obtain ⟨xs, x, hq, hx⟩ := hg
    obtain ⟨its, rv, p, hz⟩ := I.list hq
    obtain ⟨u, hu, ru⟩ := rv.get hx
    obtain ⟨f0, f1, f2, f3, f4, f5⟩ := hf it (by simp)
    refine wpAny_pyNext_list_item st p.isList (x := u) (by simpa using hu) fun h' st' sb => ?_
    have I1 : Inv X pins σ H { s with heap := h' } := I.turned (t' := s.toks) (fun b o hb e => (sb.2 b hb).trans e) f0 f1 f3 f4 f5
    obtain ⟨o, e, c, d⟩ := id st'
    exact ⟨u, rfl, go_of (s := { s with heap := h' }) e c d (by decide) ⟨x, H, I1, ru, ⟨rfl, fun ys hy => by rw [I.list_inj hy hq]; exact hx⟩, st', fun b hb => (hf b hb).1⟩⟩
  done := by
    intro X hP hw hK hc i pins s σ H E I hf st hg
    subst hP hw hK
    obtain ⟨xs, hq, hx⟩ := hg
    obtain ⟨its, rv, p, hz⟩ := I.list hq
    obtain ⟨f0, f1, f2, f3, f4, f5⟩ := hf it (by simp)
    have hl := rv.length
    exact wpAny_pyNext_list_end (I.ok.hd hc) st p.isList (by simp; omega) fun h' eb => ⟨rfl, I.turned (t' := s.toks) (fun b o hb e => eb b o hb e) f0 f1 f3 f4 f5⟩
  self := fun _ _ _ _ _ st h => wpAny_pyIter_listiter st h
theorem turn_range {P : Program} {w : World} {K : PySem.W.Frag} {tg : Expr} (it : Addr) (lo : Int) (n : Nat) : Turn P w K tg (Itr lo n) [it] it (fun i h => IsRangeIter h it (lo + (i : Nat) * 1) ((n : Int) - (i : Nat)) 1) where
  mem := by simp
  obj := fun i h st b hb => by
    have e : b = it := by simpa using hb
    subst e
    exact ⟨_, st, fun v z => by
      have z' : Data.fields _ = Data.cell v := z
      cases z'⟩
  keep := fun i h h' st k => k it (by simp) _ st
  item := by
    intro X hP hw hK hc i pins s σ H E I hf st hg
    subst hP hw hK
    obtain ⟨f0, f1, f2, f3, f4, f5⟩ := hf it (by simp)
    have W := Walks.range (prog := X.prog) (w := X.w) (I.ok.hd hc) it lo 1 n
    refine W.item i s _ _ hg st fun v h' tk hv st' kk => ?_
    obtain ⟨t, rfl⟩ := hv
    have I1 : Inv X pins σ H { s with heap := h', toks := tk } := I.turned (fun b o hb e => kk b o (by simpa using hb) e) f0 f1 f3 f4 f5
    refine ⟨_, rfl, go_of (s := { s with heap := h', toks := tk }) (n := "range_iterator") st' rfl rfl (by decide) ⟨.int (lo + i), H, I1, ⟨t, ?_⟩, ⟨rfl, rfl⟩, st', fun b hb => (hf b hb).1⟩⟩
    rw [Int.mul_one]
  done := by
    intro X hP hw hK hc i pins s σ H E I hf st hg
    subst hP hw hK
    obtain ⟨f0, f1, f2, f3, f4, f5⟩ := hf it (by simp)
    exact wpAny_pyNext_range_end (I.ok.hd hc) st (by have : n ≤ i := hg; omega) fun h' eb => ⟨rfl, I.turned (t' := s.toks) (fun b o hb e => eb b o hb e) f0 f1 f3 f4 f5⟩
  self := fun _ _ _ _ _ st h => wpAny_pyIter_rangeiter st h
end L2

namespace L2
open PySem PySem.Spec PyProof.Rows
section
variable {X : Cx} {tg : Expr}
def iList (K : PySem.W.Frag) (tl : TE) : TI := fun σ H R => tl σ H fun x H1 => ∃ a, x = .ref a ∧ (∃ xs, SqL K H1 a xs) ∧ R (Itl K a) H1
theorem pi_list {l : Expr} {tl : TE} (hl : PE X l tl) : PI X tg l (iList X.K tl) := by
  intro pins s σ H R I h
  refine thn (hl pins s σ H _ I h) fun v s1 ⟨x, H1, I1, r1, q1⟩ => ?_
  obtain ⟨a, e, ⟨xs, hq⟩, q⟩ := q1
  subst e
  cases r1
  obtain ⟨its, rv, p, hz⟩ := I1.list hq
  refine wpAny_pyIter_list p.isList ?_
  refine ⟨s1.heap.objs.size, [s1.heap.objs.size], _, _, H1, rfl, I1.kept (t' := s1.toks) fun b o e => Heap.get?_push_of_some _ e, turn_list a _, ⟨_, Heap.get?_push_size _ rfl, rfl, rfl⟩, fun b hb => ?_, q⟩
  have e : b = s1.heap.objs.size := by simpa using hb
  subst e
  exact I1.fpOk (Nat.le_refl _) (I1.hok.fresh (Nat.le_refl _))
/-- a range object just made, walked -/
theorem range_it {pins : List (Addr × Obj)} {σ : St} {H : Hp} {s : Shared} {R : It → Hp → Prop} {E : Value → Shared → Prop} {lo hi : Int} {t u v : Tok} {tk : Nat} (I : Inv X pins σ H s) (h1 : -(2 ^ 62) ≤ lo) (h2 : lo < 2 ^ 62) (h3 : -(2 ^ 62) ≤ hi) (h4 : hi < 2 ^ 62)
    (q : R (Itr lo (hi - lo).toNat) H) : wpAny (model X.prog X.w) X.A (pyIter (.ref s.heap.objs.size)) (PIE X pins σ tg R) E { s with heap := s.heap.push { cls := .type "range", data := .fields #[.int lo t, .int hi u, .int 1 v] }, toks := tk } := by
  refine wpAny_pyIter_range (IsRange.new ..) (small_one h1 h2 h3 h4) ?_
  have I1 : Inv X pins σ H { s with heap := s.heap.push { cls := .type "range", data := .fields #[.int lo t, .int hi u, .int 1 v] }, toks := tk } := I.kept fun b o e => Heap.get?_push_of_some _ e
  refine ⟨(s.heap.push { cls := .type "range", data := .fields #[.int lo t, .int hi u, .int 1 v] }).objs.size, [(s.heap.push { cls := .type "range", data := .fields #[.int lo t, .int hi u, .int 1 v] }).objs.size], _, _, H, rfl,
    I1.kept (t' := tk) fun b o e => Heap.get?_push_of_some _ e, turn_range _ lo (hi - lo).toNat, ?_, fun b hb => ?_, q⟩
  · have e1 : lo + ((0 : Nat) : Int) * 1 = lo := by simp
    have e2 : (((hi - lo).toNat : Nat) : Int) - ((0 : Nat) : Int) = Builtin.Range.rangeSize lo hi 1 := by rw [rangeSize_one]; split <;> omega
    show IsRangeIter _ _ (lo + ((0 : Nat) : Int) * 1) ((((hi - lo).toNat : Nat) : Int) - ((0 : Nat) : Int)) 1
    rw [e1, e2]
    exact Heap.get?_push_size _ rfl
  · have e : b = (s.heap.push { cls := .type "range", data := .fields #[.int lo t, .int hi u, .int 1 v] }).objs.size := by simpa using hb
    subst e
    exact I1.fpOk (Nat.le_refl _) (I1.hok.fresh (Nat.le_refl _))
def iRng1 (ta : TA) : TI := fun σ H R => ta σ H fun vs H1 => ∃ j : Int, vs = [.int j] ∧ -(2 ^ 62) ≤ j ∧ j < 2 ^ 62 ∧ R (Itr 0 j.toNat) H1
theorem pi_range1 {a : Expr} {ta : TA} {p pos : Pos} (hg : Gl X "range") (hm : X.mg "range" = none) (ha : PA X [a] ta) (hs : starEach [a] X.env = [(false, eval a X.env)] := by rfl) : PI X tg (.Call (.Name "range" p) [a] [] pos) (iRng1 ta) := by
  intro pins s σ H R I h
  refine Call_ (ld_blt I hg hm boot_range (PyProof.Rows.callWith_type1 (thn (ha pos pins s σ H _ I h) fun us s1 ⟨vs, H1, I1, r1, q1⟩ => ?_) hs rfl))
  obtain ⟨j, e, q1, q2, q⟩ := q1
  subst e
  cases r1 with
  | cons r rr =>
    cases rr
    obtain ⟨t, rfl⟩ := r
    exact call_range_1 (range_it I1 (by omega) (by omega) q1 q2 (by simpa using q))
/-! ### for -/
/-- W: the invariant by the turn and a measure; N: what the body is to reach -/
def tFor (wi : TI) (g : TG) (tb : TS) : TS := fun D σ H => wi σ H fun J H1 => ∃ W : Nat → Nat → St → Hp → Prop, (∃ m, W 0 m σ H1) ∧ ∀ i m σ H, W i m σ H →
  (J.stop i H ∧ D.nx σ H) ∨ (J.go i H ∧ ∃ N : St → Hp → Prop, (∀ σ' H', N σ' H' → ∃ m', m' < m ∧ W (i + 1) m' σ' H') ∧ ∀ x H', J.yld i H x H' → g x σ H' fun σ2 H2 => tb { D with nx := N, ct := N, bk := D.nx } σ2 H2)
/-- the records at fp as they stand -/
def pinsAt (fp : List Addr) (h : Heap) : List (Addr × Obj) := fp.filterMap fun b => (h.get? b).map fun o => (b, o)
theorem mem_pinsAt {fp : List Addr} {h : Heap} {b : Addr} {o : Obj} (hb : b ∈ fp) (e : h.get? b = some o) : (b, o) ∈ pinsAt fp h := List.mem_filterMap.mpr ⟨b, hb, by rw [e]; rfl⟩
theorem of_pinsAt {fp : List Addr} {h : Heap} {p : Addr × Obj} (hp : p ∈ pinsAt fp h) : p.1 ∈ fp ∧ h.get? p.1 = some p.2 := by
  obtain ⟨b, hb, e⟩ := List.mem_filterMap.mp hp
  cases q : h.get? b with
  | none => rw [q] at e; cases e
  | some o =>
    rw [q] at e
    have e' : (b, o) = p := Option.some.inj e
    subst e'
    exact ⟨hb, q⟩
theorem Inv.pinned {pins : List (Addr × Obj)} {σ : St} {H : Hp} {s : Shared} {fp : List Addr} (I : Inv X pins σ H s) (hf : ∀ b ∈ fp, FpOk X pins H b) (ho : ∀ b ∈ fp, ∃ o, s.heap.get? b = some o ∧ ∀ v, o.data ≠ .cell v) : Inv X (pins ++ pinsAt fp s.heap) σ H s :=
  I.pins_of fun p hp => (List.mem_append.mp hp).elim (fun z => I.pin p (List.mem_append_right _ z)) fun z => by
    obtain ⟨hb, e⟩ := of_pinsAt z
    obtain ⟨f0, f1, f2, _⟩ := hf p.1 hb
    obtain ⟨o, e', d⟩ := ho p.1 hb
    rw [e] at e'; cases e'
    exact ⟨e, f0, f1, f2, d⟩
theorem Inv.unpinned {pins pl : List (Addr × Obj)} {σ : St} {H : Hp} {s : Shared} (I : Inv X (pins ++ pl) σ H s) : Inv X pins σ H s := I.pins_of fun p hp => I.pin p (List.mem_append_right _ (List.mem_append_left _ hp))
theorem ps_for {iter : Expr} {body : List Stmt} {wi : TI} {g : TG} {tb : TS} {pos : Pos} (hp : PassesOwn (model X.prog X.w) X.A X.env X.xe) (hc : X.calm = true) (hi : PI X tg iter wi) (hg : PG X tg g) (hb : PSs X body tb)
    (hs : ∀ x, foldedSetIterable iter X.env x = pure x := by intro _; rfl) : PS X (.For tg iter body [] pos) (tFor wi g tb) := by
  intro pins s σ H D I h
  refine wpAny_For (thn (hi pins s σ H _ I h) fun v s1 h1 => thn h1 fun itv s2 h2 => ?_) hs
  obtain ⟨it, fp, tn, J, H2, e, I2, T, st2, f2, W, ⟨m0, w0⟩, turn⟩ := h2
  subst e
  -- what stays true of the iterator's objects through the loop
  have stat : ∀ {H' : Hp}, (∀ b ∈ fp, H' b = none) → ∀ b ∈ fp, FpOk X pins H' b := fun hn b hb => ⟨hn b hb, (f2 b hb).2⟩
  refine codeAny_forLoop_any (fun n s' => ∃ i σ' H', Inv X pins σ' H' s' ∧ tn i s'.heap ∧ (∀ b ∈ fp, H' b = none) ∧ W i n σ' H') ?_ m0 ⟨0, σ, H2, I2, st2, fun b hb => (f2 b hb).1, w0⟩
  rintro n s3 ⟨i, σ3, H3, I3, st3, fr3, w3⟩
  rcases turn i n σ3 H3 w3 with ⟨stop, qn⟩ | ⟨go, N, hN, step⟩
  · refine wpAny_passesOwn hp (thn (T.done X rfl rfl rfl hc i pins s3 σ3 H3 X.xe I3 (stat fr3) st3 stop) fun r s4 ⟨hr, I4⟩ => ?_)
    subst hr
    exact wpAny_execs_nil ⟨σ3, H3, I4, qn⟩
  · refine wpAny_passesOwn hp (thn (T.item X rfl rfl rfl hc i pins s3 σ3 H3 X.xe I3 (stat fr3) st3 go) fun r s4 ⟨u, hr, h4⟩ => ?_)
    subst hr
    refine wpAny_passesOwn hp (thn h4 fun _ s5 ⟨x, H5, I5, r5, y5, st5, fr5⟩ => ?_)
    have I5' := I5.pinned (stat fr5) (T.obj _ _ st5)
    refine wpAny_passesOwn hp (thn (hg _ s5 σ3 H5 x u _ I5' r5 (step x H5 y5)) fun _ s6 ⟨σ6, H6, I6, q6⟩ => ?_)
    refine wpAny_passesOwn hp (thn (hb _ s6 σ6 H6 _ I6 q6) fun f s7 q7 => ?_)
    have again : ∀ {σ7 : St} {H7 : Hp}, Inv X (pins ++ pinsAt fp s5.heap) σ7 H7 s7 → N σ7 H7 → ∃ m, m < n ∧ ∃ i σ' H', Inv X pins σ' H' s7 ∧ tn i s7.heap ∧ (∀ b ∈ fp, H' b = none) ∧ W i m σ' H' := fun {σ7 H7} I7 n7 => by
      obtain ⟨m', hm, w7⟩ := hN σ7 H7 n7
      refine ⟨m', hm, i + 1, σ7, H7, I7.unpinned, T.keep _ _ _ st5 fun b hb o e => (I7.pin (b, o) (List.mem_append_right _ (List.mem_append_right _ (mem_pinsAt hb e)))).1, fun b hb => ?_, w7⟩
      obtain ⟨o, e, d⟩ := T.obj _ _ st5 b hb
      exact (I7.pin (b, o) (List.mem_append_right _ (List.mem_append_right _ (mem_pinsAt hb e)))).2.1
    cases f with
    | next => obtain ⟨σ7, H7, I7, n7⟩ := q7; exact again I7 n7
    | cont => obtain ⟨σ7, H7, I7, n7⟩ := q7; exact again I7 n7
    | brk => obtain ⟨σ7, H7, I7, q7⟩ := q7; exact ⟨σ7, H7, I7.unpinned, q7⟩
    | ret v => obtain ⟨x7, σ7, H7, I7, r7, q7⟩ := q7; exact ⟨x7, σ7, H7, I7.unpinned, r7, q7⟩
end

/-! ### the forms one uses -/
theorem for_range {lo : Int} {n : Nat} {g : TG} {tb : TS} {D : Ends} {σ : St} {H : Hp} (Pv : Nat → St → Hp → Prop) (h0 : Pv 0 σ H)
    (hs : ∀ i σ H, i < n → Pv i σ H → g (.int (lo + i)) σ H fun σ2 H2 => tb { D with nx := Pv (i + 1), ct := Pv (i + 1), bk := D.nx } σ2 H2) (hd : ∀ σ H, Pv n σ H → D.nx σ H) :
    ∃ W : Nat → Nat → St → Hp → Prop, (∃ m, W 0 m σ H) ∧ ∀ i m σ H, W i m σ H →
      ((Itr lo n).stop i H ∧ D.nx σ H) ∨ ((Itr lo n).go i H ∧ ∃ N : St → Hp → Prop, (∀ σ' H', N σ' H' → ∃ m', m' < m ∧ W (i + 1) m' σ' H') ∧ ∀ x H', (Itr lo n).yld i H x H' → g x σ H' fun σ2 H2 => tb { D with nx := N, ct := N, bk := D.nx } σ2 H2) := by
  refine ⟨fun i m σ H => m = n - i ∧ i ≤ n ∧ Pv i σ H, ⟨n, by simp, Nat.zero_le _, h0⟩, ?_⟩
  rintro i m σ H ⟨rfl, hi, p⟩
  by_cases hlt : i < n
  · refine .inr ⟨hlt, Pv (i + 1), fun σ' H' p' => ⟨n - (i + 1), by omega, rfl, hlt, p'⟩, fun x H' y => ?_⟩
    obtain ⟨e, y⟩ := y
    subst e y
    exact hs i σ _ hlt p
  · have e : i = n := by omega
    subst e
    exact .inl ⟨Nat.le_refl _, hd σ H p⟩
end L2

namespace L2
open PySem PySem.Spec PyProof.Rows

abbrev R2 := V → V → Hp → VK → Prop
/-- a two-place operation on values: f is binaryOp op, inplaceOp op or compareOp op -/
def OpR (X : Cx) (f : Value → Value → Sem Value) (r : R2) : Prop :=
  ∀ (pins : List (Addr × Obj)) (s : Shared) (σ : St) (H : Hp) (x y : V) (v u : Value) (Q : VK), Inv X pins σ H s → RelV x v → RelV y u → r x y H Q →
    wpAny (model X.prog X.w) X.A (f v u) (EP X pins σ Q) X.xe s
/-- a one-place operation -/
def UnR (X : Cx) (f : Value → Sem Value) (r : V → Hp → VK → Prop) : Prop :=
  ∀ (pins : List (Addr × Obj)) (s : Shared) (σ : St) (H : Hp) (x : V) (v : Value) (Q : VK), Inv X pins σ H s → RelV x v → r x H Q →
    wpAny (model X.prog X.w) X.A (f v) (EP X pins σ Q) X.xe s
/-- a call of a value that is known (a builtin, a type) with values -/
def CallR (X : Cx) (f : Value) (r : List V → Hp → VK → Prop) : Prop :=
  ∀ (pins : List (Addr × Obj)) (s : Shared) (σ : St) (H : Hp) (xs : List V) (us : List Value) (Q : VK), Inv X pins σ H s → Vals xs us → r xs H Q →
    wpAny (model X.prog X.w) X.A (call f us) (EP X pins σ Q) X.xe s
def tOp (r : R2) (ta tb : TE) : TE := fun σ H Q => ta σ H fun x H1 => tb σ H1 fun y H2 => r x y H2 Q
def tUn (r : V → Hp → VK → Prop) (ta : TE) : TE := fun σ H Q => ta σ H fun x H1 => r x H1 Q
/-- ints in, under C, and a value out -/
def rI (C : Int → Int → Prop) (g : Int → Int → V) : R2 := fun x y H Q => ∃ i j, x = .int i ∧ y = .int j ∧ C i j ∧ Q (g i j) H
def rI0 (g : Int → Int → V) : R2 := fun x y H Q => ∃ i j, x = .int i ∧ y = .int j ∧ Q (g i j) H
def rU (g : Int → V) : V → Hp → VK → Prop := fun x H Q => ∃ i, x = .int i ∧ Q (g i) H

section
variable {X : Cx} {a b c : Expr} {ta tb tc : TE} {pos : Pos}

theorem binT (ha : PE X a ta) (hb : PE X b tb) {pins : List (Addr × Obj)} {s : Shared} {σ : St} {H : Hp} {R : V → V → Hp → Prop} (I : Inv X pins σ H s)
    (h : ta σ H fun x H1 => tb σ H1 fun y H2 => R x y H2) {Q : Value → Shared → Prop} {f : Value → Value → Sem Value}
    (hf : ∀ v u s2 x y H2, Inv X pins σ H2 s2 → RelV x v → RelV y u → R x y H2 → wpAny (model X.prog X.w) X.A (f v u) Q X.xe s2) :
    wpAny (model X.prog X.w) X.A (eval a X.env) (fun v s₁ => wpAny (model X.prog X.w) X.A (eval b X.env) (fun u s₂ => wpAny (model X.prog X.w) X.A (f v u) Q X.xe s₂) X.xe s₁) X.xe s := by
  refine thn (ha pins s σ H _ I h) fun v s1 ⟨x, H1, I1, r1, q1⟩ => ?_
  refine thn (hb pins s1 σ H1 _ I1 q1) fun u s2 ⟨y, H2, I2, r2, q2⟩ => ?_
  exact hf v u s2 x y H2 I2 r1 r2 q2

theorem pe_op {op : Operator} {r : R2} (ho : OpR X (binaryOp op) r) (ha : PE X a ta) (hb : PE X b tb) : PE X (.BinOp a op b pos) (tOp r ta tb) := by
  intro pins s σ H Q I h
  exact wpAny_BinOp (binT ha hb I h fun v u s2 x y H2 I2 rx ry q => ho pins s2 σ H2 x y v u Q I2 rx ry q)
theorem pe_un {op : UnaryOp} {r : V → Hp → VK → Prop} (ho : UnR X (unaryOp op) r) (ha : PE X a ta) : PE X (.UnaryOp op a pos) (tUn r ta) := by
  intro pins s σ H Q I h
  exact UnaryOp_ (thn (ha pins s σ H _ I h) fun v s1 ⟨x, H1, I1, r1, q1⟩ => ho pins s1 σ H1 x v Q I1 r1 q1)
/-! ### ints -/
theorem opI {f : Value → Value → Sem Value} {C : Int → Int → Prop} {g : Int → Int → Int}
    (rule : ∀ (i j : Int) (t u : Tok) (s : Shared) (Q : Value → Shared → Prop) (E : Value → Shared → Prop), C i j → Q (.int (g i j) s.toks) { s with toks := s.toks + 1 } → wpAny (model X.prog X.w) X.A (f (.int i t) (.int j u)) Q E s) :
    OpR X f (rI C fun i j => .int (g i j)) := by
  intro pins s σ H x y v u Q I rx ry h
  obtain ⟨i, j, rfl, rfl, hc, q⟩ := h
  obtain ⟨t, rfl⟩ := rx
  obtain ⟨t', rfl⟩ := ry
  exact rule i j t t' s _ _ hc ⟨.int (g i j), H, I.tok _, ⟨_, rfl⟩, q⟩
theorem opI0 {f : Value → Value → Sem Value} {g : Int → Int → Int}
    (rule : ∀ (i j : Int) (t u : Tok) (s : Shared) (Q : Value → Shared → Prop) (E : Value → Shared → Prop), Q (.int (g i j) s.toks) { s with toks := s.toks + 1 } → wpAny (model X.prog X.w) X.A (f (.int i t) (.int j u)) Q E s) :
    OpR X f (rI0 fun i j => .int (g i j)) := by
  intro pins s σ H x y v u Q I rx ry h
  obtain ⟨i, j, rfl, rfl, q⟩ := h
  obtain ⟨t, rfl⟩ := rx
  obtain ⟨t', rfl⟩ := ry
  exact rule i j t t' s _ _ ⟨.int (g i j), H, I.tok _, ⟨_, rfl⟩, q⟩
theorem opB0 {f : Value → Value → Sem Value} {g : Int → Int → Bool}
    (rule : ∀ (i j : Int) (t u : Tok) (s : Shared) (Q : Value → Shared → Prop) (E : Value → Shared → Prop), Q (.bool (g i j)) s → wpAny (model X.prog X.w) X.A (f (.int i t) (.int j u)) Q E s) :
    OpR X f (rI0 fun i j => .bl (g i j)) := by
  intro pins s σ H x y v u Q I rx ry h
  obtain ⟨i, j, rfl, rfl, q⟩ := h
  obtain ⟨t, rfl⟩ := rx
  obtain ⟨t', rfl⟩ := ry
  exact rule i j t t' s _ _ ⟨.bl (g i j), H, I, rfl, q⟩

def CDiv (i j : Int) : Prop := 0 < j ∧ j < 1073741824
def CPow (i j : Int) : Prop := 0 ≤ j ∧ j ≤ 1000000 ∧ i.natAbs < 2 ^ 64
theorem two_pow_nn (k : Nat) : (0 : Int) ≤ 2 ^ k := by
  rw [two_pow_cast]
  exact Int.natCast_nonneg _

theorem op_add : OpR X (binaryOp .Add) (rI0 fun i j => .int (i + j)) := opI0 fun _ _ _ _ _ _ _ q => add_int q
theorem op_sub : OpR X (binaryOp .Sub) (rI0 fun i j => .int (i - j)) := opI0 fun _ _ _ _ _ _ _ q => sub_int q
/-- // by a positive divisor -/
theorem op_fdiv : OpR X (binaryOp .FloorDiv) (rI CDiv fun i j => .int (i / j)) := opI fun i j _ _ _ _ _ hc q => by
  have h1 : (0 : Int) < j := hc.1
  have h2 : j < 1073741824 := hc.2
  exact floordiv_int (by omega) (by rw [Int.fdiv_eq_ediv_of_nonneg i (by omega)]; exact q) (.inl (PyProof.noPylong_small (by omega)))
/-- % by a positive divisor of any size -/
theorem op_mod : OpR X (binaryOp .Mod) (rI (fun _ j => 0 < j) fun i j => .int (i % j)) := opI fun i j _ _ _ _ _ hc q => by
  have h1 : (0 : Int) < j := hc
  exact mod_int' (by omega) (by rw [Int.fmod_eq_emod_of_nonneg i (by omega)]; exact q)
theorem op_shl : OpR X (binaryOp .LShift) (rI CPow fun i j => .int (i * 2 ^ j.toNat)) := opI fun _ _ _ _ _ _ _ hc q => lshift_int_small hc.1 hc.2.1 hc.2.2 q
theorem op_shr : OpR X (binaryOp .RShift) (rI (fun _ j => 0 ≤ j) fun i j => .int (i / 2 ^ j.toNat)) := opI fun i j _ _ _ _ _ hc q =>
  rshift_int hc (by rw [Int.fdiv_eq_ediv_of_nonneg i (two_pow_nn _)]; exact q)
theorem op_and : OpR X (binaryOp .BitAnd) (rI0 fun i j => .int (Builtin.bitAnd i j)) := opI0 fun _ _ _ _ _ _ _ q => and_int q
theorem op_xor : OpR X (binaryOp .BitXor) (rI0 fun i j => .int (Builtin.bitXor i j)) := opI0 fun _ _ _ _ _ _ _ q => xor_int q

theorem unI {f : Value → Sem Value} {g : Int → Int}
    (rule : ∀ (i : Int) (t : Tok) (s : Shared) (Q : Value → Shared → Prop) (E : Value → Shared → Prop), Q (.int (g i) s.toks) { s with toks := s.toks + 1 } → wpAny (model X.prog X.w) X.A (f (.int i t)) Q E s) :
    UnR X f (rU fun i => .int (g i)) := by
  intro pins s σ H x v Q I rx h
  obtain ⟨i, rfl, q⟩ := h
  obtain ⟨t, rfl⟩ := rx
  exact rule i t s _ _ ⟨.int (g i), H, I.tok _, ⟨_, rfl⟩, q⟩
theorem un_neg : UnR X (unaryOp .USub) (rU fun i => .int (-i)) := unI fun _ _ _ _ _ q => neg_int q
/-! ### bools among ints: n += (a < b) -/
end

/-! ### comparisons -/
/-- the scalars that == tells apart as data does -/
def scal : V → V → Bool
  | .non, .non => true | .non, .int _ => true | .int _, .non => true | .non, .bl _ => true | .bl _, .non => true | .non, .str _ => true | .str _, .non => true
  | .int _, .int _ => true | .bl _, .bl _ => true | .str _, .str _ => true | .byt _, .byt _ => true
  | .int _, .str _ => true | .str _, .int _ => true | .bl _, .str _ => true | .str _, .bl _ => true
  | _, _ => false
def rEq : R2 := fun x y H Q => scal x y = true ∧ Q (.bl (decide (x = y))) H
def rNe : R2 := fun x y H Q => scal x y = true ∧ Q (.bl (!decide (x = y))) H

theorem dec_int {i j : Int} : decide (V.int i = V.int j) = (i == j) := by
  rw [Bool.eq_iff_iff]
  simp
theorem dec_bl {i j : Bool} : decide (V.bl i = V.bl j) = (i == j) := by
  rw [Bool.eq_iff_iff]
  simp
theorem dec_str {i j : Str} : decide (V.str i = V.str j) = (i == j) := by
  rw [Bool.eq_iff_iff]
  simp
theorem dec_byt {i j : Array UInt8} : decide (V.byt i = V.byt j) = (i.toList == j.toList) := by
  rw [Bool.eq_iff_iff]
  cases i
  cases j
  simp

section
variable {X : Cx} {a b c : Expr} {ta tb tc : TE} {pos : Pos}
theorem fin_bl {pins : List (Addr × Obj)} {σ : St} {H : Hp} {s : Shared} {Q : VK} {k k' : Bool} (I : Inv X pins σ H s) (q : Q (.bl k) H) (e : k = k') : EP X pins σ Q (.bool k') s := by
  subst e
  exact ⟨.bl k, H, I, rfl, q⟩
theorem op_eq : OpR X (compareOp .Eq) rEq := by
  intro pins s σ H x y v u Q I rx ry h
  obtain ⟨hs, q⟩ := h
  cases x with
  | non =>
    cases rx
    cases y with
    | non => cases ry; exact PySem.EqNone.eq_none_none (fin_bl I q (by simp))
    | bl j => cases ry; exact PySem.EqNone.eq_none_bool (fin_bl I q (by simp))
    | int j => obtain ⟨t', rfl⟩ := ry; exact PySem.EqNone.eq_none_int (fin_bl I q (by simp))
    | str j => obtain ⟨t', rfl⟩ := ry; exact PySem.EqNone.eq_none_str (fin_bl I q (by simp))
    | _ => exact absurd (show false = true from hs) Bool.false_ne_true
  | bl i =>
    cases rx
    cases y with
    | non => cases ry; exact PySem.EqNone.eq_bool_none (fin_bl I q (by simp))
    | bl j => cases ry; exact eq_bool (fin_bl I q dec_bl)
    | str j => obtain ⟨t', rfl⟩ := ry; exact PySem.EqMixed.eq_bool_str (fin_bl I q (by simp))
    | _ => exact absurd (show false = true from hs) Bool.false_ne_true
  | int i =>
    obtain ⟨t, rfl⟩ := rx
    cases y with
    | non => cases ry; exact PySem.EqNone.eq_int_none (fin_bl I q (by simp))
    | int j => obtain ⟨t', rfl⟩ := ry; exact eq_int (fin_bl I q dec_int)
    | str j => obtain ⟨t', rfl⟩ := ry; exact PySem.EqMixed.eq_int_str (fin_bl I q (by simp))
    | _ => exact absurd (show false = true from hs) Bool.false_ne_true
  | str i =>
    obtain ⟨t, rfl⟩ := rx
    cases y with
    | non => cases ry; exact PySem.EqNone.eq_str_none (fin_bl I q (by simp))
    | bl j => cases ry; exact PySem.EqMixed.eq_str_bool (fin_bl I q (by simp))
    | int j => obtain ⟨t', rfl⟩ := ry; exact PySem.EqMixed.eq_str_int (fin_bl I q (by simp))
    | str j => obtain ⟨t', rfl⟩ := ry; exact eq_str (fin_bl I q dec_str)
    | _ => exact absurd (show false = true from hs) Bool.false_ne_true
  | byt i =>
    obtain ⟨t, rfl⟩ := rx
    cases y with
    | byt j => obtain ⟨t', rfl⟩ := ry; exact PySem.W.eq_bytes (fin_bl I q dec_byt)
    | _ => exact absurd (show false = true from hs) Bool.false_ne_true
  | _ => cases y <;> exact absurd (show false = true from hs) Bool.false_ne_true
theorem op_ne : OpR X (compareOp .NotEq) rNe := by
  intro pins s σ H x y v u Q I rx ry h
  obtain ⟨hs, q⟩ := h
  cases x with
  | non =>
    cases rx
    cases y with
    | non => cases ry; exact PySem.EqNone.ne_none_none (fin_bl I q (by simp))
    | bl j => cases ry; exact PySem.EqNone.ne_none_bool (fin_bl I q (by simp))
    | int j => obtain ⟨t', rfl⟩ := ry; exact PySem.EqNone.ne_none_int (fin_bl I q (by simp))
    | str j => obtain ⟨t', rfl⟩ := ry; exact PySem.EqNone.ne_none_str (fin_bl I q (by simp))
    | _ => exact absurd (show false = true from hs) Bool.false_ne_true
  | bl i =>
    cases rx
    cases y with
    | non => cases ry; exact PySem.EqNone.ne_bool_none (fin_bl I q (by simp))
    | bl j => cases ry; exact ne_bool (fin_bl I q (congrArg not dec_bl))
    | str j => obtain ⟨t', rfl⟩ := ry; exact PySem.EqMixed.ne_bool_str (fin_bl I q (by simp))
    | _ => exact absurd (show false = true from hs) Bool.false_ne_true
  | int i =>
    obtain ⟨t, rfl⟩ := rx
    cases y with
    | non => cases ry; exact PySem.EqNone.ne_int_none (fin_bl I q (by simp))
    | int j => obtain ⟨t', rfl⟩ := ry; exact ne_int (fin_bl I q (congrArg not dec_int))
    | str j => obtain ⟨t', rfl⟩ := ry; exact PySem.EqMixed.ne_int_str (fin_bl I q (by simp))
    | _ => exact absurd (show false = true from hs) Bool.false_ne_true
  | str i =>
    obtain ⟨t, rfl⟩ := rx
    cases y with
    | non => cases ry; exact PySem.EqNone.ne_str_none (fin_bl I q (by simp))
    | bl j => cases ry; exact PySem.EqMixed.ne_str_bool (fin_bl I q (by simp))
    | int j => obtain ⟨t', rfl⟩ := ry; exact PySem.EqMixed.ne_str_int (fin_bl I q (by simp))
    | str j => obtain ⟨t', rfl⟩ := ry; exact ne_str (fin_bl I q (congrArg not dec_str))
    | _ => exact absurd (show false = true from hs) Bool.false_ne_true
  | byt i =>
    obtain ⟨t, rfl⟩ := rx
    cases y with
    | byt j => obtain ⟨t', rfl⟩ := ry; exact PySem.W.ne_bytes (fin_bl I q (congrArg not dec_byt))
    | _ => exact absurd (show false = true from hs) Bool.false_ne_true
  | _ => cases y <;> exact absurd (show false = true from hs) Bool.false_ne_true

theorem op_lt : OpR X (compareOp .Lt) (rI0 fun i j => .bl (decide (i < j))) := opB0 fun _ _ _ _ _ _ _ q => lt_int q
theorem op_le : OpR X (compareOp .LtE) (rI0 fun i j => .bl (decide (i ≤ j))) := opB0 fun _ _ _ _ _ _ _ q => le_int q
theorem op_gt : OpR X (compareOp .Gt) (rI0 fun i j => .bl (decide (j < i))) := opB0 fun _ _ _ _ _ _ _ q => gt_int q
theorem op_ge : OpR X (compareOp .GtE) (rI0 fun i j => .bl (decide (j ≤ i))) := opB0 fun _ _ _ _ _ _ _ q => ge_int q
theorem nomark (b : Expr) {op : CmpOp} (h : op ≠ .In := by decide) (h2 : op ≠ .NotIn := by decide) : behindInMarks op b = false := by
  have e1 : (op == CmpOp.In) = false := by cases op <;> first | rfl | exact absurd rfl h
  have e2 : (op == CmpOp.NotIn) = false := by cases op <;> first | rfl | exact absurd rfl h2
  cases b <;> simp [behindInMarks, e1, e2]
/-- a comparison as a value; hm: nomark b, or (for in, not in) by with_unfolding_all rfl -/
theorem pe_cmpR {op : CmpOp} {r : R2} (ho : OpR X (compareOp op) r) (ha : PE X a ta) (hb : PE X b tb) (hm : behindInMarks op b = false) : PE X (.Compare a [op] [b] pos) (tOp r ta tb) := by
  intro pins s σ H Q I h
  exact wpAny_Compare1 (binT ha hb I h fun v u s2 x y H2 I2 rx ry q => ho pins s2 σ H2 x y v u Q I2 rx ry q) hm
/-- a reading of a value as a test -/
def tTest (t : TE) : TT := fun σ H Q => t σ H fun x H' => ∃ k, x = .bl k ∧ Q k H'
theorem pt_cmpR {op : CmpOp} {r : R2} (ho : OpR X (compareOp op) r) (ha : PE X a ta) (hb : PE X b tb) (hm : behindInMarks op b = false) : PT X (.Compare a [op] [b] pos) (tTest (tOp r ta tb)) := by
  intro pins s σ H Q I h
  refine wpAny_isTrue_Compare1 (thn (ha pins s σ H _ I h) fun v s1 ⟨x, H1, I1, r1, q1⟩ => thn (hb pins s1 σ H1 _ I1 q1) fun u s2 ⟨y, H2, I2, r2, q2⟩ =>
    thn (ho pins s2 σ H2 x y v u _ I2 r1 r2 q2) fun c s3 ⟨z, H3, I3, r3, k, e, q3⟩ => ?_) hm
  subst e
  cases r3
  exact wpAny_truthy_bool ⟨H3, I3, q3⟩
/-- a op1 b op2 c -/
def tChain (r r' : R2) (ta tb tc : TE) : TE := fun σ H Q => ta σ H fun x H1 => tb σ H1 fun y H2 => r x y H2 fun z H3 => ∃ k, z = .bl k ∧
  (if k = true then tc σ H3 fun w' H4 => r' y w' H4 Q else Q (.bl false) H3)
theorem pe_chain {op op' : CmpOp} {r r' : R2} (ho : OpR X (compareOp op) r) (ho' : OpR X (compareOp op') r') (ha : PE X a ta) (hb : PE X b tb) (hc : PE X c tc)
    (hm : lastMarks [op, op'] [b, c] = false := by with_unfolding_all rfl) : PE X (.Compare a [op, op'] [b, c] pos) (tChain r r' ta tb tc) := by
  intro pins s σ H Q I h
  refine Compare_chain (thn (ha pins s σ H _ I h) fun v s1 ⟨x, H1, I1, r1, q1⟩ => chain_link (thn (hb pins s1 σ H1 _ I1 q1) fun u s2 ⟨y, H2, I2, r2, q2⟩ =>
    thn (ho pins s2 σ H2 x y v u _ I2 r1 r2 q2) fun d s3 ⟨z, H3, I3, r3, k, e, q3⟩ => ?_)) hm
  subst e
  cases r3
  refine wpAny_truthy_bool ?_
  cases k with
  | false => exact ite_ff ⟨.bl false, H3, I3, rfl, q3⟩
  | true => exact ite_tt (chain_last (thn (hc pins s3 σ H3 _ I3 q3) fun w' s4 ⟨z', H4, I4, r4, q4⟩ => ho' pins s4 σ H4 y z' u w' Q I4 r2 r4 q4))
theorem pt_chain {op op' : CmpOp} {r r' : R2} (ho : OpR X (compareOp op) r) (ho' : OpR X (compareOp op') r') (ha : PE X a ta) (hb : PE X b tb) (hc : PE X c tc)
    (hm : lastMarks [op, op'] [b, c] = false := by with_unfolding_all rfl) : PT X (.Compare a [op, op'] [b, c] pos) (tTest (tChain r r' ta tb tc)) := by
  intro pins s σ H Q I h
  refine isTrue_chain (thn (ha pins s σ H _ I h) fun v s1 ⟨x, H1, I1, r1, q1⟩ => test_link (thn (hb pins s1 σ H1 _ I1 q1) fun u s2 ⟨y, H2, I2, r2, q2⟩ =>
    thn (ho pins s2 σ H2 x y v u _ I2 r1 r2 q2) fun d s3 ⟨z, H3, I3, r3, k, e, q3⟩ => ?_)) hm
  subst e
  cases r3
  refine wpAny_truthy_bool ?_
  cases k with
  | false =>
    obtain ⟨k', e', q'⟩ := q3
    cases e'
    exact ite_ff ⟨H3, I3, q'⟩
  | true =>
    refine ite_tt (test_last (thn (hc pins s3 σ H3 _ I3 q3) fun w' s4 ⟨z', H4, I4, r4, q4⟩ => thn (ho' pins s4 σ H4 y z' u w' _ I4 r2 r4 q4) fun d' s5 ⟨z2, H5, I5, r5, k2, e2, q5⟩ => ?_))
    subst e2
    cases r5
    exact wpAny_truthy_bool ⟨H5, I5, q5⟩

/-! ### truth -/
theorem line63 : (sizeLine : Nat) < 2 ^ 63 := by rw [sizeLine_eq]; decide
/-! ### strs and bytes -/
/-! ### scalar builtins, by CallR -/
theorem vals1 {x : V} {us : List Value} (r : Vals [x] us) : ∃ u, us = [u] ∧ RelV x u := by
  cases r with
  | cons r1 r2 => cases r2; exact ⟨_, rfl, r1⟩
end
end L2

namespace L2
open PySem PySem.Spec PyProof.Rows

/-! ### an instance, its attributes a map -/
structure ObjM (h : Heap) (x dx C : Addr) (mA : Str → Option Value) : Prop where
  obj : h.get? x = some (PySem.W.instObj C dx)
  ns : h.Ns1 dx mA
  ne : dx ≠ x

theorem lookIn_ns {h : Heap} {dx : Addr} {mA : Str → Option Value} (n : h.Ns1 dx mA) : ∃ od, h.get? dx = some od ∧ ∀ name, PySem.W.lookIn name od = some (mA name) := by
  obtain ⟨o, es, ep, ho, hd, hk, _, hm⟩ := n
  refine ⟨o, ho, fun name => ?_⟩
  have e := hm name
  unfold nsFind findBy at e
  rw [← Array.find?_toList] at e
  unfold PySem.W.lookIn
  rw [hd]
  dsimp only
  split
  · rename_i y q
    rw [q] at e
    exact congrArg some e
  · rename_i q
    rw [q] at e
    have a : es.toList.any (·.refKey) = false := by
      rw [List.any_eq_false]
      intro y hy
      obtain ⟨z, t, hkey⟩ := hk y (Array.mem_toList_iff.mp hy)
      simp [DictEntry.refKey, hkey]
    have a' : ¬ es.toList.any (·.refKey) = true := by rw [a]; exact Bool.false_ne_true
    rw [if_neg a']
    exact congrArg some e

theorem ObjM.look {h : Heap} {x dx C : Addr} {mA : Str → Option Value} (I : ObjM h x dx C mA) : ∃ od, PySem.W.InstAt h x (PySem.W.instObj C dx) C (some od) ∧ ∀ name, PySem.W.lookIn name od = some (mA name) :=
  let ⟨od, ho, hl⟩ := lookIn_ns I.ns
  ⟨od, ⟨I.obj, rfl, rfl, ho⟩, hl⟩

section
variable {prog : Program} {w : World} {A : Around} {E : Value → Shared → Prop} {s : Shared} {K : PySem.W.Frag} {x dx C f : Addr} {mA : Str → Option Value} {name : Str} {v : Value}

theorem get_map {expr : Bool} {Q : Value → Shared → Prop} (X : K.In s.heap) (I : ObjM s.heap x dx C mA) (hg : PySem.W.plainGet K C name = true) (hh : PySem.W.hasDictIn K C = true)
    (ha : PySem.W.findIn K (.ref C) name = some none) (hv : mA name = some v) (hv' : PySem.W.handedIn v = true) (h : Q v { s with toks := s.toks + 1 }) :
    wpAny (model prog w) A (getAttr (.ref x) name expr) Q E s := by
  obtain ⟨od, J, hl⟩ := I.look
  exact PySem.W.get_value X J (PySem.W.plainGet_of hg).1 (PySem.W.findObj_own hh ha rfl (by rw [hl, hv])) hv' h

theorem get_meth {pl : Sem Bool} {Q : Value × List Value → Shared → Prop} (X : K.In s.heap) (I : ObjM s.heap x dx C mA) (hg : PySem.W.plainGet K C name = true)
    (hf : PySem.W.findIn K (.ref C) name = some (some (.ref f))) (ht : PySem.W.isFn K (.ref f) = true) (hv : mA name = none) (h : Q (.ref f, [.ref x]) s) :
    wpAny (model prog w) A (getMethod (.ref x) name pl) Q E s := by
  obtain ⟨od, J, hl⟩ := I.look
  exact PySem.W.method_fn X J (PySem.W.plainGet_of hg).1 (PySem.W.plainGet_of hg).2 hf (beq_iff_eq.mp ht) (by show (PySem.W.lookIn name od).map (·.isSome) = some false; rw [hl, hv]; rfl) h

theorem set_map {ns : List Str} {Q : Unit → Shared → Prop} (X : K.In s.heap) (I : ObjM s.heap x dx C mA)
    (hs : PySem.W.findIn K (.ref C) "__setattr__" = some (some (.builtin "object.__setattr__"))) (hp : PySem.W.plainOver K C = true) (ht : PySem.W.takerIn K C name = some none) (hh : PySem.W.hasDictIn K C = true)
    (hw : PySem.Within mA ns) (hsz : ns.length ≤ sizeLine)
    (h : ∀ h', ObjM h' x dx C (fun y => if y = name then some v else mA y) → Heap.SameBut dx s.heap h' → Q () { s with heap := h', toks := s.toks + 2 }) :
    wpAny (model prog w) A (setAttr (.ref x) name v) Q E s := by
  obtain ⟨od, J, hl⟩ := I.look
  refine PySem.W.set_plain X J hs (PySem.W.osa_open (s := { s with toks := s.toks + 1 }) (r := none) X J hp ht fun b => ?_)
  obtain ⟨cd, hc, hd'⟩ := PySem.W.any_some hh
  have hx : s.heap.get? x = some ⟨.ref C, some dx, .plain, #[]⟩ := I.obj
  refine wpAny_bind (wpAny_pure (wpAny_bind (wpAny_bind (wpAny_loadPart hx (wpAny_bind (PySem.W.Looks.here (s := { s with toks := s.toks + 1 }) (PySem.W.looks_clsIn X hc) ?_))))))
  rw [hd']
  refine wpAny_pure (a := some dx) (wpAny_bind (wpAny_pure (wpAny_bind ?_)))
  refine wpAny_nsSet1 (s := { s with toks := s.toks + 1 }) I.ns fun h' hn2 hs2 => ?_
  obtain ⟨oD, esD, epD, hoD, hdD, hcD⟩ := hn2.count (PySem.Within.cons name v hw)
  refine wpAny_bind (wpAny_lookBehind hoD (by rw [hdD]; exact pastItsLine_dict (Nat.le_trans hcD (by rw [List.length_cons]; omega))) ?_)
  exact wpAny_pure (h _ ⟨(hs2.2 _ (Ne.symm I.ne)).trans I.obj, hn2, I.ne⟩ hs2)

/-- C(..): the dict at the heap's end, the instance behind it; then its __init__ -/
theorem make_map {R : Result → Shared → Prop} {vs : List Value} {kw : List (Str × Value)} (X : K.In s.heap) (hm : PySem.W.makesIn K C = true)
    (hi : PySem.W.findIn K (.ref C) "__init__" = some (some (.ref f))) (hf : PySem.W.typeIn K (.ref f) = some (.type "function"))
    (h : codeAny (model prog w) (A.under (.builtin "type.__call__" ⟨.ref C :: vs, kw⟩)) (.call (.ref f) ⟨.ref (s.heap.objs.size + 1) :: vs, kw⟩) (PySem.W.InitBack (s.heap.objs.size + 1) R)
      { s with heap := (s.heap.push PySem.W.emptyDict).push (PySem.W.instObj C s.heap.objs.size) }) :
    codeAny (model prog w) A (.call (.ref C) ⟨vs, kw⟩) R s := by
  obtain ⟨hh, g, d, t, os⟩ := s
  exact PySem.W.make_core (PySem.W.makes_of X hm) (PySem.W.looks_findIn X hi) (fun self => PySem.W.bind_fn X self hf) (.inl rfl) h
end

/-! ### the attributes as a list of pairs -/
def putF (f : Str) (v : V) : List (Str × V) → List (Str × V)
  | [] => [(f, v)]
  | (g, x) :: r => if g = f then (g, v) :: r else (g, x) :: putF f v r
theorem lookup_putF (f g : Str) (v : V) : ∀ fs : List (Str × V), (putF f v fs).lookup g = if g = f then some v else fs.lookup g
  | [] => by
    show List.lookup g [(f, v)] = _
    by_cases h : g = f
    · have hb : (g == f) = true := beq_iff_eq.mpr h
      simp only [List.lookup, hb, if_pos h]
    · have hb : (g == f) = false := beq_eq_false_iff_ne.mpr h
      simp only [List.lookup, hb, if_neg h]
  | (k, x) :: r => by
    have ih := lookup_putF f g v r
    rw [show putF f v ((k, x) :: r) = (if k = f then (k, v) :: r else (k, x) :: putF f v r) from rfl]
    by_cases hk : k = f
    · rw [if_pos hk]
      by_cases h : g = k
      · have hb : (g == k) = true := beq_iff_eq.mpr h
        simp only [List.lookup, hb, if_pos (h.trans hk)]
      · have hb : (g == k) = false := beq_eq_false_iff_ne.mpr h
        simp only [List.lookup, hb, if_neg (fun e : g = f => h (e.trans hk.symm))]
    · rw [if_neg hk]
      by_cases h : g = k
      · have hb : (g == k) = true := beq_iff_eq.mpr h
        simp only [List.lookup, hb, if_neg (fun e : g = f => hk (h.symm.trans e))]
      · have hb : (g == k) = false := beq_eq_false_iff_ne.mpr h
        simp only [List.lookup, hb]
        exact ih
theorem keys_putF (f : Str) (v : V) : ∀ fs : List (Str × V), f ∈ (putF f v fs).map (·.1) ∧ ∀ g, g ∈ fs.map (·.1) → g ∈ (putF f v fs).map (·.1)
  | [] => ⟨by simp [putF], fun g h => by simp at h⟩
  | (k, x) :: r => by
    obtain ⟨i1, i2⟩ := keys_putF f v r
    rw [show putF f v ((k, x) :: r) = (if k = f then (k, v) :: r else (k, x) :: putF f v r) from rfl]
    by_cases hk : k = f
    · rw [if_pos hk]
      subst hk
      exact ⟨by simp, fun g h => by simpa using h⟩
    · rw [if_neg hk]
      refine ⟨?_, fun g h => ?_⟩
      · rw [List.map_cons]
        exact List.mem_cons_of_mem _ i1
      · rw [List.map_cons] at h ⊢
        rcases List.mem_cons.mp h with e | e
        · exact List.mem_cons.mpr (.inl e)
        · exact List.mem_cons_of_mem _ (i2 g e)
theorem length_putF (f : Str) (v : V) : ∀ fs : List (Str × V), (putF f v fs).length ≤ fs.length + 1
  | [] => by simp [putF]
  | (k, x) :: r => by
    have ih := length_putF f v r
    rw [show putF f v ((k, x) :: r) = (if k = f then (k, v) :: r else (k, x) :: putF f v r) from rfl]
    by_cases hk : k = f
    · rw [if_pos hk, List.length_cons, List.length_cons]; omega
    · rw [if_neg hk, List.length_cons, List.length_cons]; omega

theorem RelO.some_of {v : V} {o : Option Value} (r : RelO (some v) o) : ∃ u, o = some u ∧ RelV v u := by
  cases o with
  | none => exact (show False from r).elim
  | some u => exact ⟨u, rfl, r⟩
theorem RelO.none_of {o : Option Value} (r : RelO none o) : o = none := by
  cases o with
  | none => rfl
  | some u => exact (show False from r).elim
theorem handed_of {v : V} {u : Value} (r : RelV v u) : PySem.W.handedIn u = true := by
  cases v with
  | non => cases (show u = Value.none from r); rfl
  | bl b => cases (show u = Value.bool b from r); rfl
  | int i => obtain ⟨t, e⟩ := (show ∃ t, u = Value.int i t from r); cases e; rfl
  | str x => obtain ⟨t, e⟩ := (show ∃ t, u = Value.str x t from r); cases e; rfl
  | byt b => obtain ⟨t, e⟩ := (show ∃ t, u = Value.bytes b t from r); cases e; rfl
  | flt b => obtain ⟨t, e⟩ := (show ∃ t, u = Value.float b t from r); cases e; rfl
  | ref a => cases (show u = Value.ref a from r); rfl
  | ty n => cases (show u = Value.type n from r); rfl

section
variable {P : Program} {w : World} {H H' : Hp} {h h' : Heap} {a C dx : Addr} {fs fs' : List (Str × V)}
theorem ins_get (hok : HOk P w H h) (e : H a = some (.ins C dx fs)) : ∃ mA, ObjM h a dx C mA ∧ (∀ f, RelO (fs.lookup f) (mA f)) ∧ PySem.Within mA (fs.map (·.1)) ∧ fs.length ≤ 1000 ∧ H dx = some (.own a) := by
  obtain ⟨d, z, ne, ob, mA, n, r, q⟩ := (show ObjOk P w H h a (.ins C dx fs) from hok a _ e)
  exact ⟨mA, ⟨ob, n, ne⟩, r, q, z, d⟩
end

/-! ### what of the text a class must have -/
structure Cls (K : PySem.W.Frag) (C : Addr) : Prop where
  pg : PySem.W.plainGet K C Str.empty = true
  hd : PySem.W.hasDictIn K C = true
  po : PySem.W.plainOver K C = true
  sa : PySem.W.findIn K (.ref C) "__setattr__" = some (some (.builtin "object.__setattr__"))
theorem Cls.get {K : PySem.W.Frag} {C : Addr} (c : Cls K C) (f : Str) : PySem.W.plainGet K C f = true := c.pg
/-- no class of it has the name -/
def NoAttr (K : PySem.W.Frag) (C : Addr) (f : Str) : Prop := PySem.W.findIn K (.ref C) f = some none
theorem NoAttr.taker {K : PySem.W.Frag} {C : Addr} {f : Str} (n : NoAttr K C f) : PySem.W.takerIn K C f = some none := by
  unfold PySem.W.takerIn
  rw [show PySem.W.findIn K (.ref C) f = some none from n]
  rfl
/-- a constant of the class -/
structure Con (K : PySem.W.Frag) (C : Addr) (f : Str) (v : V) (u : Value) : Prop where
  at_ : PySem.W.findIn K (.ref C) f = some (some u)
  rel : RelV v u
  get : PySem.W.specialIn K u "__get__" = some none
  cp : PySem.W.copiedNames.contains f = false
/-- a method: a plain def of the class or of one above it -/
structure Meth (K : PySem.W.Frag) (C : Addr) (m : Str) (f : Addr) : Prop where
  at_ : PySem.W.findIn K (.ref C) m = some (some (.ref f))
  fn : PySem.W.isFn K (.ref f) = true
  kp : PySem.W.keepIn K (.ref f) = true

section
variable {X : Cx} {pins : List (Addr × Obj)} {σ : St} {H : Hp} {s : Shared} {a C dx : Addr} {fs : List (Str × V)} {f : Str} {v : V} {A : Around} {E : Value → Shared → Prop}

theorem getattr_ok {b : Bool} {Q : Value → Shared → Prop} (I : Inv X pins σ H s) (e : H a = some (.ins C dx fs)) (c : Cls X.K C) (n : NoAttr X.K C f) (l : fs.lookup f = some v)
    (h : ∀ u s', Inv X pins σ H s' → RelV v u → Q u s') : wpAny (model X.prog X.w) A (getAttr (.ref a) f b) Q E s := by
  obtain ⟨mA, O, r, _, _, _⟩ := ins_get I.hok e
  obtain ⟨u, hu, ru⟩ := RelO.some_of (v := v) (o := mA f) (by rw [← l]; exact r f)
  exact get_map I.kIn O (c.get f) c.hd n hu (handed_of ru) (h u _ (I.tok _) ru)

theorem getmeth_ok {m : Str} {g : Addr} {pl : Sem Bool} {Q : Value × List Value → Shared → Prop} (I : Inv X pins σ H s) (e : H a = some (.ins C dx fs)) (c : Cls X.K C) (k : Meth X.K C m g) (l : fs.lookup m = none)
    (h : Q (.ref g, [.ref a]) s) : wpAny (model X.prog X.w) A (getMethod (.ref a) m pl) Q E s := by
  obtain ⟨mA, O, r, _, _, _⟩ := ins_get I.hok e
  have hn : mA m = none := RelO.none_of (by rw [← l]; exact r m)
  exact get_meth I.kIn O (c.get m) k.at_ k.fn hn h

theorem setattr_ok {y : V} {u : Value} {Q : Unit → Shared → Prop} (I : Inv X pins σ H s) (e : H a = some (.ins C dx fs)) (c : Cls X.K C) (n : NoAttr X.K C f) (hl : fs.length < 1000) (ry : RelV y u)
    (h : ∀ s', Inv X pins σ (upd H a (.ins C dx (putF f y fs))) s' → Q () s') : wpAny (model X.prog X.w) A (setAttr (.ref a) f u) Q E s := by
  obtain ⟨mA, O, r, wi, _, ho⟩ := ins_get I.hok e
  have hz : (fs.map (·.1)).length ≤ sizeLine := by rw [List.length_map, sizeLine_eq]; omega
  refine set_map I.kIn O c.sa c.po n.taker c.hd wi hz fun h' O' sb => h _ ?_
  have hd : ∃ o, h'.get? dx = some o := let ⟨o, _, _, e', _⟩ := O'.ns; ⟨o, e'⟩
  refine I.write (x := a) (e := dx) (by rw [e]; exact True.intro) (.inr ho) (fun b q hb z => (sb.2 b hb).trans z) hd ?_
  refine ⟨by rw [upd_ne O.ne]; exact ho, ?_, O.ne, O'.obj, _, O'.ns, fun g => ?_, fun g hg => ?_⟩
  · have := length_putF f y fs; omega
  · show RelO ((putF f y fs).lookup g) (if g = f then some u else mA g)
    rw [lookup_putF]
    by_cases q : g = f
    · rw [if_pos q, if_pos q]; exact ry
    · rw [if_neg q, if_neg q]; exact r g
  · by_cases q : g = f
    · rw [q]; exact (keys_putF f y fs).1
    · refine (keys_putF f y fs).2 g (wi g fun z => hg ?_)
      show (if g = f then some u else mA g) = none
      rw [if_neg q]; exact z

/-- a new instance, tracked, without attributes -/
theorem Inv.made (I : Inv X pins σ H s) : Inv X pins σ (upd (upd H s.heap.objs.size (.own (s.heap.objs.size + 1))) (s.heap.objs.size + 1) (.ins C s.heap.objs.size []))
    { s with heap := (s.heap.push PySem.W.emptyDict).push (PySem.W.instObj C s.heap.objs.size) } := by
  have e1 : (s.heap.push PySem.W.emptyDict).get? s.heap.objs.size = some PySem.W.emptyDict := Heap.get?_push_size s.heap rfl
  have e2 : ((s.heap.push PySem.W.emptyDict).push (PySem.W.instObj C s.heap.objs.size)).get? (s.heap.objs.size + 1) = some (PySem.W.instObj C s.heap.objs.size) := by
    have := Heap.get?_push_size (s.heap.push PySem.W.emptyDict) (o := PySem.W.instObj C s.heap.objs.size) rfl
    rwa [Heap.size_push] at this
  have e3 : (s.heap.push PySem.W.emptyDict).Ns s.heap.objs.size (fun _ => none) := ⟨PySem.W.emptyDict, #[], _, e1, rfl, (fun e he => absurd he (by simp)), fun _ => rfl⟩
  have I1 := I.laid (a := s.heap.objs.size) (o := .own (s.heap.objs.size + 1)) (h' := s.heap.push PySem.W.emptyDict) (t' := s.toks) (fun b u q => Heap.get?_push_of_some _ q) (Nat.le_refl _) ⟨_, e1⟩
  refine I1.laid (a := s.heap.objs.size + 1) (o := .ins C s.heap.objs.size []) (t' := s.toks) (fun b u q => Heap.get?_push_of_some _ q) (Nat.le_of_eq (Heap.size_push _ _)) ?_
  have ne : s.heap.objs.size ≠ s.heap.objs.size + 1 := Nat.ne_of_lt (Nat.lt_succ_self _)
  refine ⟨by rw [upd_ne ne, upd_same], Nat.zero_le _, ne, e2, fun _ => none, (Heap.Ns1.of_empty e3).at fun o q => Heap.get?_push_of_some _ q, fun _ => True.intro, fun y hy => absurd rfl hy⟩

/-- e.f where nothing but the object is asked: through attributeBase (super) and the last hold -/
theorem attr_of {prog : Program} {w : World} {env : Env} {e : Expr} {f : Str} {pos : Pos} {s : Shared} {Q : Value → Shared → Prop} (hb : attributeBase e f env (eval e env) = eval e env)
    (h : wpAny (model prog w) A (eval e env) (fun o s₁ => wpAny (model prog w) A (getAttr o f true) Q E s₁) E s) : wpAny (model prog w) A (eval (.Attribute e f pos) env) Q E s :=
  Attribute_any_ h (by rw [arm_eval_Attribute, hb])
end

/-! ### readings and rules -/
/-- e.f, an attribute of the instance -/
def tFld (K : PySem.W.Frag) (ta : TE) (f : Str) : TE := fun σ H Q => ta σ H fun x H1 => ∃ a C dx fs v, x = .ref a ∧ H1 a = some (.ins C dx fs) ∧ Cls K C ∧ NoAttr K C f ∧ fs.lookup f = some v ∧ Q v H1
/-- e.f = value -/
def sFld (K : PySem.W.Frag) (ta tv : TE) (f : Str) : TS := fun D σ H => tv σ H fun y H1 => ta σ H1 fun x H2 => ∃ a C dx fs, x = .ref a ∧ H2 a = some (.ins C dx fs) ∧ Cls K C ∧ NoAttr K C f ∧ fs.length < 1000 ∧
  D.nx σ (upd H2 a (.ins C dx (putF f y fs)))
/-- an augmented operator on two values -/
def InOp (X : Cx) (op : Operator) (rd : V → V → Hp → VK → Prop) : Prop :=
  ∀ (pins : List (Addr × Obj)) (s : Shared) (σ : St) (H : Hp) (x y : V) (u v : Value) (Q : VK), Inv X pins σ H s → RelV x u → RelV y v → rd x y H Q → wpAny (model X.prog X.w) X.A (inplaceOp op u v) (EP X pins σ Q) X.xe s
/-- e.f op= value -/
def sFldAug (K : PySem.W.Frag) (ta tv : TE) (rd : V → V → Hp → VK → Prop) (f : Str) : TS := fun D σ H => ta σ H fun x H1 => ∃ a C dx fs v, x = .ref a ∧ H1 a = some (.ins C dx fs) ∧ Cls K C ∧ NoAttr K C f ∧ fs.lookup f = some v ∧
  tv σ H1 fun y H2 => rd v y H2 fun z H3 => ∃ dx' fs', H3 a = some (.ins C dx' fs') ∧ fs'.length < 1000 ∧ D.nx σ (upd H3 a (.ins C dx' (putF f z fs')))

section
variable {X : Cx} {o e value : Expr} {f : Str} {pos pos' tpos : Pos} {ta tv : TE}
theorem pe_fld (he : PE X e ta) (hb : attributeBase e f X.env (eval e X.env) = eval e X.env) : PE X (.Attribute e f pos) (tFld X.K ta f) := by
  intro pins s σ H Q I h
  refine attr_of hb (thn (he pins s σ H _ I h) fun u s1 ⟨x, H1, I1, rx, a, C, dx, fs, v, ex, ea, c, n, l, q⟩ => ?_)
  subst ex
  obtain rfl : u = Value.ref a := rx
  exact getattr_ok I1 ea c n l fun u' s2 I2 ru => ⟨v, H1, I2, ru, q⟩
theorem ps_fld (ha : PE X o ta) (hv : PE X value tv) (hs : swapsWith value (some (.Attribute o f pos')) pos.line X.env = pure false) : PS X (.Assign [.Attribute o f pos'] value pos) (sFld X.K ta tv f) := by
  intro pins s σ H D I h
  refine plainObj_wpAny_Assign_Attribute (thn (hv pins s σ H _ I h) fun u s1 ⟨y, H1, I1, ry, q⟩ => thn (ha pins s1 σ H1 _ I1 q) fun ov s2 ⟨x, H2, I2, rx, a, C, dx, fs, ex, ea, c, n, l, q2⟩ => ?_) hs
  subst ex
  obtain rfl : ov = Value.ref a := rx
  exact setattr_ok I2 ea c n l ry fun s3 I3 => ⟨σ, _, I3, q2⟩
theorem ps_fldaug {op : Operator} {rd : V → V → Hp → VK → Prop} (ha : PE X o ta) (hv : PE X value tv) (hop : InOp X op rd) : PS X (.AugAssign (.Attribute o f tpos) op value pos) (sFldAug X.K ta tv rd f) := by
  intro pins s σ H D I h
  refine wpAny_AugAssign_AttributeAny (thn (ha pins s σ H _ I h) fun ov s1 ⟨x, H1, I1, rx, a, C, dx, fs, v, ex, ea, c, n, l, q⟩ => ?_)
  subst ex
  obtain rfl : ov = Value.ref a := rx
  refine getattr_ok I1 ea c n l fun u s2 I2 ru => thn (hv pins s2 σ H1 _ I2 q) fun w3 s3 ⟨y, H2, I3, ry, q3⟩ => thn (hop pins s3 σ H2 v y u w3 _ I3 ru ry q3) fun w4 s4 ⟨z, H3, I4, rz, dx', fs', ea', l', q4⟩ => ?_
  exact setattr_ok I4 ea' c n l' rz fun s5 I5 => ⟨σ, _, I5, q4⟩
def rAdd : V → V → Hp → VK → Prop := fun x y H Q => ∃ i j, x = .int i ∧ y = .int j ∧ Q (.int (i + j)) H
theorem in_add : InOp X .Add rAdd := by
  rintro pins s σ H x y u v Q I rx ry ⟨i, j, rfl, rfl, q⟩
  obtain ⟨t, rfl⟩ := (show ∃ t, u = Value.int i t from rx)
  obtain ⟨t', rfl⟩ := (show ∃ t', v = Value.int j t' from ry)
  exact PyProof.Rows.iadd_int ⟨.int (i + j), H, I.tok _, ⟨_, rfl⟩, q⟩
end

/-! ### isinstance -/
section
variable {X : Cx} {pins : List (Addr × Obj)} {σ : St} {H : Hp} {s : Shared} {A : Around} {E : Value → Shared → Prop} {Q : Value → Shared → Prop} {c : Value} {b : Bool}
/-- the type of a value, as the fragment's deciders take it; for an instance its class -/
inductive TyOf (K : PySem.W.Frag) (H : Hp) : V → Value → Prop where
  | non : TyOf K H .non (.type "NoneType")
  | bl (x : Bool) : TyOf K H (.bl x) (.type "bool")
  | int (i : Int) : TyOf K H (.int i) (.type "int")
  | str (x : Str) : TyOf K H (.str x) (.type "str")
  | flt (x : UInt64) : TyOf K H (.flt x) (.type "float")
  | lst {a : Addr} {xs : List V} (e : H a = some (.lst xs)) : TyOf K H (.ref a) (.type "list")
  | frz {a : Addr} {o : Obj} {xs : List V} (e : H a = some (.frz o (.lst xs))) : TyOf K H (.ref a) (.type "list")
  | tup {a : Addr} {xs : List V} (e : H a = some (.tup xs)) : TyOf K H (.ref a) (.type "tuple")
  | dK {a : Addr} {kvs : List (Key × V)} (e : H a = some (.dK kvs)) : TyOf K H (.ref a) (.type "dict")
  | dT {a : Addr} {kvs : List (List Key × V)} (e : H a = some (.dT kvs)) : TyOf K H (.ref a) (.type "dict")
  | ins {a C dx : Addr} {fs : List (Str × V)} (e : H a = some (.ins C dx fs)) (cl : Cls K C) (ha : PySem.W.findIn K (.ref C) "__class__" = some (some (.builtin "object.__class__")))
      (hn : PySem.W.specialIn K (.builtin "object.__class__") "__get__" = some (some (.builtin "getset_descriptor.__get__"))) (htk : PySem.W.takesIn K (.builtin "object.__class__") = some true)
      (hm : PySem.W.mroIn K C (.type "object") = some true) : TyOf K H (.ref a) (.ref C)
end
end L2

namespace L2
open PySem PySem.Spec PyProof.Rows

/-! ### room -/
structure Room (k : Nat) (A : Around) : Prop where
  hd : A.handled = none
  dp : A.depth + 3 * k + 5 < recursionLimit
  un : A.units + 16 * k + 200 < cLine
theorem Room.mono {j k : Nat} {A : Around} (r : Room k A) (h : j ≤ k) : Room j A := ⟨r.hd, by have := r.dp; omega, by have := r.un; omega⟩
theorem Room.deeper {k : Nat} {A : Around} (r : Room (k + 1) A) (env : Env) : Room k (A.deeper env) :=
  ⟨r.hd, by have := r.dp; show A.depth + 1 + 3 * k + 5 < _; omega, by have := r.un; show A.units + 3 + 16 * k + 200 < _; omega⟩
theorem make_depth {A : Around} {C : Addr} {us : List Value} {kw : List (Str × Value)} : (A.under (.builtin "type.__call__" ⟨.ref C :: us, kw⟩)).depth = A.depth + 1 := by
  first | rfl | simp [Around.under, Code.weight, Code.isCreation, Code.isGuard, Code.isCaller, Code.frames, Code.isFrame, guardIds]
theorem make_units {A : Around} {C : Addr} {us : List Value} {kw : List (Str × Value)} : (A.under (.builtin "type.__call__" ⟨.ref C :: us, kw⟩)).units = A.units + 1 := by
  first | rfl | simp [Around.under, Code.cUnits, Code.frames, Code.isFrame]
theorem Room.make {k : Nat} {A : Around} (r : Room (k + 1) A) (C : Addr) (us : List Value) (kw : List (Str × Value)) : Room k (A.under (.builtin "type.__call__" ⟨.ref C :: us, kw⟩)) :=
  ⟨r.hd, by have := r.dp; rw [make_depth]; omega, by have := r.un; rw [make_units]; omega⟩
theorem Room.depth {k : Nat} {A : Around} (r : Room k A) : A.depth < recursionLimit := by have := r.dp; omega
/-! ### argument lists and displays -/
def tNil : TA := fun _ H Q => Q [] H
def tCons (ta : TE) (tr : TA) : TA := fun σ H Q => ta σ H fun x H1 => tr σ H1 fun xs H2 => Q (x :: xs) H2
section
variable {X : Cx} {e : Expr} {es : List Expr} {te : TE} {t : TA} {pos : Pos}
theorem pa_nil : PA X [] tNil := fun _ _ _ _ H Q I h => Calls.spliced_nil ⟨[], H, I, .nil, h⟩
theorem pa_cons (ha : PE X e te) (hr : PA X es t) (hs : starEach (e :: es) X.env = (false, eval e X.env) :: starEach es X.env := by rfl) : PA X (e :: es) (tCons te t) := by
  intro pos pins s σ H Q I h
  rw [hs]
  show wpAny _ _ (spliced ((false, eval e X.env) :: backTo pos (starEach es X.env))) _ _ s
  refine Calls.spliced_cons (thn (ha pins s σ H _ I h) fun u s1 ⟨x, H1, I1, r1, q1⟩ => ?_)
  exact thn (hr pos pins s1 σ H1 _ I1 q1) fun us s2 ⟨xs, H2, I2, r2, q2⟩ => ⟨x :: xs, H2, I2, .cons r1 r2, q2⟩

/-- a tuple, a list of written items -/
def tTup (t : TA) : TE := fun σ H Q => t σ H fun xs H1 => xs.length ≤ sizeLine ∧ ∀ p, H1 p = none → Q (.ref p) (upd H1 p (.tup xs))
def tLst (t : TA) : TE := fun σ H Q => t σ H fun xs H1 => xs.length ≤ sizeLine ∧ ∀ p, H1 p = none → Q (.ref p) (upd H1 p (.lst xs))
theorem pe_tup {x1} (h : PA X es t) : PE X (.Tuple es x1 pos) (tTup t) := by
  intro pins s σ H Q I hq
  refine wpAny_Tuple_spliced (thn (h pos pins s σ H _ I hq) fun us s1 ⟨xs, H1, I1, r, z, q⟩ => ⟨by rw [← r.length]; exact z, ?_⟩)
  have hf : H1 s1.heap.objs.size = none := I1.hok.fresh (Nat.le_refl _)
  refine ⟨.ref s1.heap.objs.size, upd H1 s1.heap.objs.size (.tup xs), I1.laid (t' := s1.toks) (fun b u e => Heap.get?_push_of_some _ e) (Nat.le_refl _) ?_, rfl, q _ hf⟩
  exact ⟨z, us, r, ⟨_, Heap.get?_push_size _ rfl, rfl, _, rfl⟩⟩
theorem pe_lst (h : PA X es t) : PE X (.List es pos) (tLst t) := by
  intro pins s σ H Q I hq
  refine wpAny_List_spliced (thn (h pos pins s σ H _ I hq) fun us s1 ⟨xs, H1, I1, r, z, q⟩ => ⟨by rw [← r.length]; exact z, ?_⟩)
  have hf : H1 s1.heap.objs.size = none := I1.hok.fresh (Nat.le_refl _)
  refine ⟨.ref s1.heap.objs.size, upd H1 s1.heap.objs.size (.lst xs), I1.laid (t' := s1.toks) (fun b u e => Heap.get?_push_of_some _ e) (Nat.le_refl _) ?_, rfl, q _ hf⟩
  exact ⟨z, us, 0, r, Heap.get?_push_size _ rfl⟩
end

/-! ### what a def promises -/
/-- a def's promise: the bound arguments in the parameters' order, the heap, the wanted end, the wanted exception -/
abbrev Sp := List V → Hp → VK → XK → Prop
/-- how an exception lies behind a call (file 08 gives it): the callers' frames, abstract heap and state ahead of the call, the wish, the exception, the state -/
abbrev CXT := List Env → Hp → Shared → XK → Value → Shared → Prop

/-- the state at a call -/
structure Env0 (P : Program) (w : World) (K : PySem.W.Frag) (mg : Str → Option Value) (base : Heap) (A : Around) (outer : List Env) (s : Shared) (H : Hp) : Prop where
  frames : A.frames = some outer
  mod : Mod K mg base
  bs : ∀ b o, base.get? b = some o → s.heap.get? b = some o ∧ H b = none
  bsz : base.objs.size ≤ s.heap.objs.size
  funs : s.heap.FunFrames base outer
  frf : ∀ b ∈ frs outer, H b = none
  hok : HOk P w H s.heap
  bare : AllBare s.gens
/-- a call's end -/
def CE (outer : List Env) (P : Program) (w : World) (H : Hp) (s : Shared) (Q : VK) (u : Value) (s' : Shared) : Prop :=
  ∃ v H', s'.os = s.os ∧ AllBare s'.gens ∧ Un (frs outer) [] H H' s.heap s'.heap ∧ HOk P w H' s'.heap ∧ RelV v u ∧ Q v H'
def CR (CX : CXT) (outer : List Env) (P : Program) (w : World) (H : Hp) (s : Shared) (Q : VK) (E : XK) (r : Result) (s' : Shared) : Prop :=
  match r with
  | .ok (.ret u) => CE outer P w H s Q u s'
  | .ok _ => False
  | .error e => CX outer H s E e s'
structure FnOk (P : Program) (w : World) (K : PySem.W.Frag) (mg : Str → Option Value) (base : Heap) (CX : CXT) (k : Nat) (f : Addr) (fd : FuncData) (ps : List Str) (sp : Sp) : Prop where
  len : ∀ vs H Q E, sp vs H Q E → vs.length = ps.length
  run : ∀ (A : Around) (outer : List Env) (s : Shared) (H : Hp) (args : Args) (us : List Value) (vs : List V) (Q : VK) (E : XK), Room k A → Env0 P w K mg base A outer s H → BindsTo s fd args (ps.zip us) → Vals vs us → sp vs H Q E →
    codeAny (model P w) A (.call (.ref f) args) (CR CX outer P w H s Q E) s
theorem Env0.make {P : Program} {w : World} {K : PySem.W.Frag} {mg : Str → Option Value} {base : Heap} {A : Around} {outer : List Env} {s : Shared} {H : Hp} (e : Env0 P w K mg base A outer s H) (C : Addr) (us : List Value) (kw : List (Str × Value)) :
    Env0 P w K mg base (A.under (.builtin "type.__call__" ⟨.ref C :: us, kw⟩)) outer s H := ⟨by first | exact e.frames | (simpa [Around.under, Code.envs, Code.isFrame, pushEnvs] using e.frames), e.mod, e.bs, e.bsz, e.funs, e.frf, e.hok, e.bare⟩
section
variable {X : Cx} {pins : List (Addr × Obj)} {σ : St} {H : Hp} {s s' : Shared}
/-- from a body: what a callee wants -/
theorem Inv.env0 (I : Inv X pins σ H s) : Env0 X.prog X.w X.K X.mg X.base X.A X.stack s H :=
  ⟨I.ok.frames, I.ok.mod, I.bs, Nat.le_trans I.ok.bsz I.sz, I.stack, I.stkFree, I.hok, I.bare⟩
/-- behind a call -/
theorem Inv.after {Q : VK} {u : Value} (I : Inv X pins σ H s) (h : CE X.stack X.prog X.w H s Q u s') : EP X pins σ Q u s' := by
  obtain ⟨v, H', os, bare, un, hok, r, q⟩ := h
  obtain ⟨hh, g, d, t, os'⟩ := s'
  obtain rfl : os' = s.os := os
  exact ⟨v, H', I.call (h' := hh) (g' := g) (d' := d) (t' := t) (ch := []) un hok bare (fun b z => absurd z (by simp)), r, q⟩
end

/-! ### calls -/
/-- f(..): the written arguments, then the defaults dvs; E: what is wanted of an exception -/
def tCall (sp : Sp) (dvs : List V) (E : XK) (t : TA) : TE := fun σ H Q => t σ H fun vs H1 => sp (vs ++ dvs) H1 Q E
/-- o.m(..) of an instance of the class at C -/
def tMeth (C : Addr) (m : Str) (sp : Sp) (dvs : List V) (E : XK) (ta : TE) (t : TA) : TE := fun σ H Q => ta σ H fun x H1 => ∃ a dx fs, x = .ref a ∧ H1 a = some (.ins C dx fs) ∧ fs.lookup m = none ∧
  t σ H1 fun vs H2 => sp (x :: (vs ++ dvs)) H2 Q E
/-- C(..): a new instance and its dict, then __init__ -/
def tMake (C : Addr) (sp : Sp) (dvs : List V) (E : XK) (t : TA) : TE := fun σ H Q => t σ H fun vs H1 => ∀ x dx, H1 x = none → H1 dx = none → dx ≠ x →
  sp (.ref x :: (vs ++ dvs)) (upd (upd H1 dx (.own x)) x (.ins C dx [])) (fun v H2 => v = .non ∧ Q (.ref x) H2) E

/-- how the parameters are bound: us the positional arguments, kw the keywords' values by name, ds the defaults that fill up -/
def Binds (K : PySem.W.Frag) (fd : FuncData) (ps : List Str) (ds : List Value) : Prop :=
  ∀ (s : Shared) (us : List Value), K.In s.heap → (us ++ ds).length = ps.length → BindsTo s fd ⟨us, []⟩ (ps.zip (us ++ ds))
/-- every parameter is given -/
theorem Binds.all {K : PySem.W.Frag} {fd : FuncData} {ps : List Str} (h : ∀ us : List Value, us.length = ps.length → bindArgs fd ⟨us, []⟩ = pure (ps.zip us)) : Binds K fd ps [] := fun s us _ hl => by
  rw [List.append_nil] at hl ⊢
  exact .of_eq (h us hl)

/-- an exception of a callee reaches what this body wants of exceptions -/
def Passes (CX : CXT) (X : Cx) (E : XK) : Prop := ∀ (pins : List (Addr × Obj)) (σ : St) (H : Hp) (s : Shared) (e : Value) (s' : Shared), Inv X pins σ H s → CX X.stack H s E e s' → X.xe e s'

section
variable {X : Cx} {CX : CXT} {k : Nat} {f C : Addr} {fd : FuncData} {ps : List Str} {sp : Sp} {dvs : List V} {ds : List Value} {E : XK} {x m : Str} {p pos apos : Pos} {e o : Expr} {es : List Expr} {ta : TE} {t : TA}

/-- the callee runs -/
theorem run_fn {pins : List (Addr × Obj)} {σ : St} {H : Hp} {s : Shared} {Q : VK} {us : List Value} {vs : List V} (F : FnOk X.prog X.w X.K X.mg X.base CX k f fd ps sp) (hr : Room k X.A) (hb : Binds X.K fd ps ds) (hd : Vals dvs ds) (hx : Passes CX X E)
    (I : Inv X pins σ H s) (r : Vals vs us) (h : sp (vs ++ dvs) H Q E) : wpAny (model X.prog X.w) X.A (call (.ref f) us) (EP X pins σ Q) X.xe s := by
  have r2 : Vals (vs ++ dvs) (us ++ ds) := r.append hd
  have hl : (us ++ ds).length = ps.length := by rw [← r2.length]; exact F.len _ _ _ _ h
  refine wpAny_call (codeAny_mono (F.run X.A X.stack s H ⟨us, []⟩ (us ++ ds) (vs ++ dvs) Q E hr I.env0 (hb s us I.kIn hl) r2 h) fun r s' hq => ?_)
  cases r with
  | error e => exact hx pins σ H s e s' I hq
  | ok fl =>
    cases fl with
    | ret u => exact I.after hq
    | next => exact False.elim hq
    | brk => exact False.elim hq
    | cont => exact False.elim hq

theorem pe_call (F : FnOk X.prog X.w X.K X.mg X.base CX k f fd ps sp) (hr : Room k X.A) (hg : Gl X x) (hm : X.mg x = some (.ref f)) (hk : PySem.W.keepIn X.K (.ref f) = true) (hb : Binds X.K fd ps ds) (hd : Vals dvs ds) (hx : Passes CX X E)
    (ha : PA X (e :: es) t) (hdb : (x == ("__debug__" : Str)) = false := by decide) (he : starEach (e :: es) X.env = (false, eval e X.env) :: starEach es X.env := by rfl) (hpl : (backTo pos (starEach es X.env)).any (·.1) = false := by rfl) :
    PE X (.Call (.Name x p) (e :: es) [] pos) (tCall sp dvs E t) := by
  intro pins s σ H Q I h
  refine wpAny_Call_Name_kw (ld_glob I hg hm ?_ hdb)
  refine PySem.W.callWith_K (h₀ := X.base) I.ok.mod.kin hk (thn (ha pos pins s σ H _ I h) fun us s1 ⟨vs, H1, I1, r, q⟩ => ⟨I1.kIn, ?_⟩) he hpl
  exact run_fn F hr hb hd hx I1 r q
/-- o.m() -/
theorem pe_meth0 {pl : Sem Bool} (he : PE X o ta) (c : Cls X.K C) (hm : Meth X.K C m f) (F : FnOk X.prog X.w X.K X.mg X.base CX k f fd ps sp) (hr : Room k X.A) (hb : Binds X.K fd ps ds) (hd : Vals dvs ds) (hx : Passes CX X E)
    (ht : eval (.Call (.Attribute o m apos) [] [] pos) X.env = (do
      let ov ← eval o X.env
      standAt apos.atName
      let (f, first) ← holding [ov] (getMethod ov m pl)
      callWith pos f first (backTo pos (starEach [] X.env)) (backToKw pos (keywordEach [] X.env))) := by rfl) :
    PE X (.Call (.Attribute o m apos) [] [] pos) (tMeth C m sp dvs E ta tNil) := by
  intro pins s σ H Q I h
  refine PySem.W.methodCall_KW (pl := pl) (thn (he pins s σ H _ I h) fun u s1 ⟨x, H1, I1, rx, a, dx, fs, ex, ea, l, q⟩ => ?_) ht
  subst ex
  obtain rfl : u = Value.ref a := rx
  refine getmeth_ok I1 ea c hm l ?_
  exact PySem.W.callWith_K0 (first := [.ref a]) I1.kIn hm.kp (run_fn (us := [.ref a]) (vs := [.ref a]) F hr hb hd hx I1 (.cons rfl .nil) q)

/-- what a class must have to be made -/
structure Mk (K : PySem.W.Frag) (C f : Addr) : Prop where
  makes : PySem.W.makesIn K C = true
  init : PySem.W.findIn K (.ref C) "__init__" = some (some (.ref f))
  fn : PySem.W.isFn K (.ref f) = true
  kp : PySem.W.keepIn K (.ref C) = true

theorem run_make {pins : List (Addr × Obj)} {σ : St} {H : Hp} {s : Shared} {Q : VK} {us : List Value} {vs : List V} (M : Mk X.K C f) (F : FnOk X.prog X.w X.K X.mg X.base CX k f fd ps sp) (hr : Room (k + 1) X.A) (hb : Binds X.K fd ps ds) (hd : Vals dvs ds)
    (hx : Passes CX X E) (I : Inv X pins σ H s) (r : Vals vs us)
    (h : ∀ x dx, H x = none → H dx = none → dx ≠ x → sp (.ref x :: (vs ++ dvs)) (upd (upd H dx (.own x)) x (.ins C dx [])) (fun v H2 => v = .non ∧ Q (.ref x) H2) E) :
    wpAny (model X.prog X.w) X.A (call (.ref C) us) (EP X pins σ Q) X.xe s := by
  have hq := h (s.heap.objs.size + 1) s.heap.objs.size (I.hok.fresh (Nat.le_succ _)) (I.hok.fresh (Nat.le_refl _)) (Nat.ne_of_lt (Nat.lt_succ_self _))
  have I2 := Inv.made (C := C) I
  have r2 : Vals (V.ref (s.heap.objs.size + 1) :: (vs ++ dvs)) (Value.ref (s.heap.objs.size + 1) :: (us ++ ds)) := .cons rfl (r.append hd)
  have hl : (Value.ref (s.heap.objs.size + 1) :: us ++ ds).length = ps.length := by
    have e := r2.length
    rw [F.len _ _ _ _ hq] at e
    exact e.symm
  refine wpAny_call (make_map (f := f) I.kIn M.makes M.init (beq_iff_eq.mp M.fn) (codeAny_mono (F.run _ X.stack _ _ ⟨Value.ref (s.heap.objs.size + 1) :: us, []⟩ (Value.ref (s.heap.objs.size + 1) :: (us ++ ds)) _ _ E (hr.make C us [])
    (I2.env0.make C us []) (hb _ (Value.ref (s.heap.objs.size + 1) :: us) I2.kIn hl) r2 hq) fun r s' hq' => ?_))
  cases r with
  | error e => exact hx pins σ _ _ e s' I2 hq'
  | ok fl =>
    cases fl with
    | ret u =>
      obtain ⟨v, H', I3, rv, ev, q3⟩ := I2.after hq'
      subst ev
      exact ⟨rv, ⟨V.ref (s.heap.objs.size + 1), H', I3, rfl, q3⟩⟩
    | next => exact False.elim hq'
    | brk => exact False.elim hq'
    | cont => exact False.elim hq'
theorem pe_make (M : Mk X.K C f) (F : FnOk X.prog X.w X.K X.mg X.base CX k f fd ps sp) (hr : Room (k + 1) X.A) (hg : Gl X x) (hm : X.mg x = some (.ref C)) (hb : Binds X.K fd ps ds) (hd : Vals dvs ds) (hx : Passes CX X E)
    (ha : PA X (e :: es) t) (hdb : (x == ("__debug__" : Str)) = false := by decide) (he : starEach (e :: es) X.env = (false, eval e X.env) :: starEach es X.env := by rfl) (hpl : (backTo pos (starEach es X.env)).any (·.1) = false := by rfl) :
    PE X (.Call (.Name x p) (e :: es) [] pos) (tMake C sp dvs E t) := by
  intro pins s σ H Q I h
  refine wpAny_Call_Name_kw (ld_glob I hg hm ?_ hdb)
  refine PySem.W.callWith_K (h₀ := X.base) I.ok.mod.kin M.kp (thn (ha pos pins s σ H _ I h) fun us s1 ⟨vs, H1, I1, r, q⟩ => ⟨I1.kIn, ?_⟩) he hpl
  exact run_make M F hr hb hd hx I1 r q
theorem pe_make0 (M : Mk X.K C f) (F : FnOk X.prog X.w X.K X.mg X.base CX k f fd ps sp) (hr : Room (k + 1) X.A) (hg : Gl X x) (hm : X.mg x = some (.ref C)) (hb : Binds X.K fd ps ds) (hd : Vals dvs ds) (hx : Passes CX X E)
    (hdb : (x == ("__debug__" : Str)) = false := by decide) : PE X (.Call (.Name x p) [] [] pos) (tMake C sp dvs E tNil) := by
  intro pins s σ H Q I h
  refine wpAny_Call_Name_kw (ld_glob I hg hm ?_ hdb)
  exact PySem.W.callWith_K0 I.kIn M.kp (run_make (us := []) M F hr hb hd hx I .nil h)
end

/-! ### keywords -/
/-- the values of the keywords, from the left -/
def PK (X : Cx) (kws : List Keyword) (t : TA) : Prop :=
  ∀ (pos : Pos) (pins : List (Addr × Obj)) (s : Shared) (σ : St) (H : Hp) (Q : List V → Hp → Prop), Inv X pins σ H s → t σ H Q → wpAny (model X.prog X.w) X.A (evalAll ((backToKw pos (keywordEach kws X.env)).map (·.2))) (AP X pins σ Q) X.xe s
section
variable {X : Cx} {CX : CXT} {k : Nat} {f C : Addr} {fd : FuncData} {ps ks : List Str} {sp : Sp} {E : XK} {x m : Str} {p pos apos kpos : Pos} {e o : Expr} {es : List Expr} {kws : List Keyword} {te ta : TE} {t tk : TA} {nm : Option Str}
theorem pk_nil : PK X [] tNil := fun _ _ _ _ H Q I h => wpAny_evalAll_nil ⟨[], H, I, .nil, h⟩
theorem pk_cons (ha : PE X e te) (hr : PK X kws t) : PK X (⟨nm, e, kpos⟩ :: kws) (tCons te t) := by
  intro pos pins s σ H Q I h
  show wpAny _ _ (evalAll ((do let v ← eval e X.env; standAt pos; pure v) :: (backToKw pos (keywordEach kws X.env)).map (·.2))) _ _ s
  refine wpAny_evalAll_cons (wpAny_bind (thn (ha pins s σ H _ I h) fun u s1 ⟨x, H1, I1, r1, q1⟩ => wpAny_bind (wpAny_standAt (wpAny_pure ?_))))
  exact thn (hr pos pins s1 σ H1 _ I1 q1) fun us s2 ⟨xs, H2, I2, r2, q2⟩ => ⟨x :: xs, H2, I2, .cons r1 r2, q2⟩

/-- how a call with keywords binds: g puts the positional values us and the keywords' values ws (names ks) in the parameters' order, defaults among them -/
structure KBinds (K : PySem.W.Frag) (fd : FuncData) (ps ks : List Str) (g : List Value → List Value → List Value) (gV : List V → List V → List V) : Prop where
  to : ∀ (s : Shared) (us ws : List Value), K.In s.heap → (g us ws).length = ps.length → BindsTo s fd ⟨us, ks.zip ws⟩ (ps.zip (g us ws))
  rel : ∀ {vs : List V} {us : List Value} {zs : List V} {ws : List Value}, Vals vs us → Vals zs ws → Vals (gV vs zs) (g us ws)
variable {g : List Value → List Value → List Value} {gV : List V → List V → List V}
end

/-! ### a def's body keeps its promise -/
/-- names: the parameters first -/
structure FnScope (N P : List Str) (sc : Scope) : Prop where
  kind : sc.kind = .function
  co : sc.isCoroutine = false
  gen : sc.isGenerator = false
  nd : N.Nodup
  pre : N.take P.length = P
  par : ∀ x ∈ P, sc.names.lookup x = some .local ∨ sc.names.lookup x = some .cell
  nofree : ∀ y ∈ sc.names, y.2 ≠ .free

theorem bindL_out {kindOf : Str → Option NameKind} {x : Str} : ∀ {binds : List (Str × Value)} {m : Str → Option Value}, (∀ v, (x, v) ∉ binds) → bindL kindOf binds m x = m x
  | [], _, _ => rfl
  | (n, v) :: r, m, h => by
    unfold bindL
    rw [bindL_out fun w hw => h w (List.mem_cons_of_mem _ hw)]
    split
    · have : x ≠ n := by rintro rfl; exact h v List.mem_cons_self
      simp [this]
    · rfl
theorem bindC_out {kindOf : Str → Option NameKind} {x : Str} : ∀ {binds : List (Str × Value)} {m : Str → Option Value}, (∀ v, (x, v) ∉ binds) → bindC kindOf binds m x = m x
  | [], _, _ => rfl
  | (n, v) :: r, m, h => by
    unfold bindC
    rw [bindC_out fun w hw => h w (List.mem_cons_of_mem _ hw)]
    split
    · rfl
    · have : x ≠ n := by rintro rfl; exact h v List.mem_cons_self
      simp [this]
theorem bindL_get {kindOf : Str → Option NameKind} {x : Str} {v : Value} : ∀ {P : List Str} {vs : List Value} {i : Nat} {m : Str → Option Value}, P.Nodup → P[i]? = some x → vs[i]? = some v → kindOf x = some .local →
    bindL kindOf (P.zip vs) m x = some v
  | [], _, _, _, _, h, _, _ => by simp at h
  | _ :: _, [], _, _, _, _, h, _ => by simp at h
  | p :: P, w :: vs, 0, m, nd, h1, h2, hk => by
    simp at h1 h2; subst h1; subst h2
    show bindL kindOf ((p, w) :: P.zip vs) m p = _
    unfold bindL
    rw [bindL_out fun v hv => (List.nodup_cons.mp nd).1 (List.of_mem_zip hv).1, if_pos hk]
    simp
  | p :: P, w :: vs, i + 1, m, nd, h1, h2, hk => by
    show bindL kindOf ((p, w) :: P.zip vs) m x = _
    unfold bindL
    exact bindL_get (i := i) (List.nodup_cons.mp nd).2 (by simpa using h1) (by simpa using h2) hk
theorem bindC_get {kindOf : Str → Option NameKind} {x : Str} {v : Value} : ∀ {P : List Str} {vs : List Value} {i : Nat} {m : Str → Option Value}, P.Nodup → P[i]? = some x → vs[i]? = some v → kindOf x ≠ some .local →
    bindC kindOf (P.zip vs) m x = some v
  | [], _, _, _, _, h, _, _ => by simp at h
  | _ :: _, [], _, _, _, _, h, _ => by simp at h
  | p :: P, w :: vs, 0, m, nd, h1, h2, hk => by
    simp at h1 h2; subst h1; subst h2
    show bindC kindOf ((p, w) :: P.zip vs) m p = _
    unfold bindC
    rw [bindC_out fun v hv => (List.nodup_cons.mp nd).1 (List.of_mem_zip hv).1, if_neg hk]
    simp
  | p :: P, w :: vs, i + 1, m, nd, h1, h2, hk => by
    show bindC kindOf ((p, w) :: P.zip vs) m x = _
    unfold bindC
    exact bindC_get (i := i) (List.nodup_cons.mp nd).2 (by simpa using h1) (by simpa using h2) hk

/-- the names' values at the entry -/
def start (N : List Str) (vs : List V) : St := vs.map some ++ List.replicate (N.length - vs.length) none

/-- the context of a def's body, at its entry; an exception leaves the frame, then lies as CX says -/
def cxOf (CX : CXT) (P : Program) (w : World) (K : PySem.W.Frag) (mg : Str → Option Value) (base : Heap) (N : List Str) (qual : Str) (scope : Scope) (f : Addr) (cd : Value) (A : Around) (outer : List Env) (s : Shared) (H : Hp) (E : XK) : Cx where
  prog := P
  w := w
  K := K
  mg := mg
  base := base
  A := A.deeper (envOfC qual scope s.heap.objs.size f cd)
  N := N
  s_0 := s
  H_0 := H
  env := envOfC qual scope s.heap.objs.size f cd
  outer := outer
  stack := envOfC qual scope s.heap.objs.size f cd :: outer
  ex := []
  calm := true
  fn := fun _ => true
  pn := []
  xe := fun e s' => wpAny (model P w) (A.deeper (envOfC qual scope s.heap.objs.size f cd)) (leaving (envOfC qual scope s.heap.objs.size f cd) e) (fun _ s'' => CX outer H s E e s'') (fun e' s'' => CX outer H s E e' s'') s'

theorem cell_has {sc : Scope} {n : Nat} {x : Str} (h : sc.names.lookup x = some .cell) : ∃ c, (cellsFrom n sc.names []).lookup x = some c := by
  have q := PySem.W.cellsFrom_some sc.names n [] (.inl h)
  exact Option.isSome_iff_exists.mp q

theorem inv_start {CX : CXT} {P : Program} {w : World} {K : PySem.W.Frag} {mg : Str → Option Value} {base : Heap} {N ps : List Str} {qual : Str} {scope : Scope} {f : Addr} {cd : Value} {A : Around} {outer : List Env} {s s1 : Shared} {H : Hp} {E : XK} {us : List Value} {vs : List V}
    (S : FnScope N ps scope) (hd : A.handled = none) (e0 : Env0 P w K mg base A outer s H) (hl : vs.length = ps.length) (r : Vals vs us)
    (x : InCallC s s.heap.objs.size (bindL (envOfC qual scope s.heap.objs.size f cd).kindOf (ps.zip us) fun _ => none) (cellsFrom (s.heap.objs.size + 1) scope.names []) (bindC (envOfC qual scope s.heap.objs.size f cd).kindOf (ps.zip us) fun _ => none) s1) :
    Inv (cxOf CX P w K mg base N qual scope f cd A outer s H E) [] (start N vs) H s1 := by
  have hpl : ps.length ≤ N.length := by have := congrArg List.length S.pre; rw [List.length_take] at this; omega
  obtain ⟨h1, tk, rfl, hk⟩ := x.done
  have noA : ∀ b : Addr, b ∉ (cxOf CX P w K mg base N qual scope f cd A outer s H E).ex := fun b z => absurd (show b ∈ ([] : List Addr) from z) (by simp)
  refine ⟨⟨e0.mod, S.kind, rfl, rfl, Nat.le_refl _, fun y z c h1 h2 => ?_, fun y hy => ?_, fun y c _ h => ?_, fun _ => hd, Around.frames_deeper e0.frames, .inr ⟨rfl, rfl⟩, fun b z => absurd z (noA b), e0.bs, e0.bsz, fun b _ _ => noA b, fun b z => absurd z (noA b), e0.funs, e0.frf⟩,
    rfl, e0.bare, Un.kept hk, ⟨_, x.toInCall.ns, fun i y v h1 h2 h3 => ?_⟩, fun y c h => ⟨_, x.cell y c h⟩, e0.hok.fresh (Nat.le_refl _), fun y c h => ?_, fun p hp => absurd (show p ∈ ([] : List (Addr × Obj)) from hp) (by simp), e0.hok.kept hk, ?_⟩
  · exact name_of_addr x.apart (PySem.mem_of_lookup h1) (PySem.mem_of_lookup h2)
  · have hy : scope.names.lookup y = some .cell ∨ scope.names.lookup y = some .free := hy
    rcases hy with hy | hy
    · exact cell_has hy
    · exact absurd rfl (S.nofree _ (PySem.mem_of_lookup hy))
  · exact Nat.le_of_lt (x.above y c (PySem.mem_of_lookup h))
  · have hi : i < vs.length := by
      unfold start at h2
      by_cases hi : i < vs.length
      · exact hi
      · rw [List.getElem?_append_right (by simpa using hi)] at h2
        rw [List.getElem?_replicate] at h2
        split at h2 <;> cases h2
    have ha : vs[i]? = some v := by
      unfold start at h2
      rw [List.getElem?_append_left (by simpa using hi), List.getElem?_map] at h2
      cases e : vs[i]? with
      | none => rw [e] at h2; cases h2
      | some a => rw [e] at h2; cases h2; rfl
    obtain ⟨u, hu, rv⟩ := r.get ha
    have hp : ps[i]? = some y := by
      rw [← S.pre, List.getElem?_take_of_lt (by omega)]; exact h1
    have ndP : ps.Nodup := by rw [← S.pre]; exact S.nd.sublist (List.take_sublist _ _)
    refine ⟨u, rv, ?_⟩
    rcases S.par y (List.mem_of_getElem? hp) with k | k
    · exact .inl ⟨k, bindL_get ndP hp hu k⟩
    · obtain ⟨c, e⟩ := cell_has (n := s.heap.objs.size + 1) k
      refine .inr ⟨.inl k, c, e, ?_⟩
      have q := x.cell y c e
      rw [bindC_get ndP hp hu (by show scope.names.lookup y ≠ _; rw [k]; decide)] at q
      exact q
  · exact e0.hok.fresh (Nat.le_of_lt (x.above y c (PySem.mem_of_lookup h)))
  · unfold start
    show _ = N.length
    rw [List.length_append, List.length_map, List.length_replicate]
    omega

/-- THE RULE: a def (or a method) of the text, by its body. The body's reading t is chosen for each entry; it is run at the parameters' values -/
theorem fn_of {CX : CXT} {P : Program} {w : World} {K : PySem.W.Frag} {mg : Str → Option Value} {base : Heap} {k : Nat} {f : Addr} {name qual : Str} {params : Arguments} {body : List Stmt} {scope : Scope} {dV kV doc pm cdv ct oc : Value} {an od : Option Addr}
    {osl : Array (Option Value)} {N ps : List Str} {sp : Sp} (lk : K.lookup f = some ⟨oc, od, .func (PySem.W.fnOf name qual params body scope dV kV doc pm an cdv ct), osl⟩) (hcd : PySem.W.codeIn K cdv qual = true) (S : FnScope N ps scope)
    (len : ∀ vs H Q E, sp vs H Q E → vs.length = ps.length)
    (hbody : ∀ (A : Around) (outer : List Env) (s : Shared) (H : Hp) (vs : List V) (Q : VK) (E : XK), Room k (A.deeper (envOfC qual scope s.heap.objs.size f cdv)) → sp vs H Q E →
      ∃ t, PSs (cxOf CX P w K mg base N qual scope f cdv A outer s H E) body t ∧ t { nx := fun _ H' => Q .non H', rt := Q } (start N vs) H) :
    FnOk P w K mg base CX (k + 1) f (PySem.W.fnOf name qual params body scope dV kV doc pm an cdv ct) ps sp := by
  refine ⟨len, fun A outer s H args us vs Q E hr e0 hb r hsp => ?_⟩
  have hl := len _ _ _ _ hsp
  have KX : K.In s.heap := e0.mod.kin.keeps fun b o e => (e0.bs b o e).1
  have lim : s.heap.NoLimit := e0.mod.nolimit.keeps fun b o e => (e0.bs b o e).1
  have hkind : ∀ y ∈ ps.zip us, scope.names.lookup y.1 = some .local ∨ (scope.names.lookup y.1 = some .cell ∧ ((cellsFrom (s.heap.objs.size + 1) scope.names []).lookup y.1).isSome = true) := fun ⟨n, v⟩ hy => by
    rcases S.par n (List.of_mem_zip hy).1 with q | q
    · exact .inl q
    · exact .inr ⟨q, PySem.W.cellsFrom_some _ _ _ (.inl q)⟩
  refine codeAny_call_function hr.depth (KX _ _ lk) rfl S.co S.gen rfl (PySem.W.codeRec_of KX hcd) (hb _ _ _ _ ?_)
  refine wpAny_newFunctionEnv_cells S.kind hkind fun env he s1 x => ?_
  subst he
  refine ⟨lim.keeps x.toInCall.keep, codeAny_func ?_⟩
  obtain ⟨t, ht, hq⟩ := hbody A outer s H vs Q E (hr.deeper _) hsp
  have I : Inv (cxOf CX P w K mg base N qual scope f cdv A outer s H E) [] (start N vs) H s1 := inv_start S hr.hd e0 hl r x
  refine wpAny_mono (ht [] s1 (start N vs) H _ I hq) (fun fl s' hs => ?_) fun e s' hs => hs
  have fin : ∀ {σ' : St} {H' : Hp} {v : V} {u : Value}, Inv (cxOf CX P w K mg base N qual scope f cdv A outer s H E) [] σ' H' s' → RelV v u → Q v H' → CE outer P w H s Q u s' :=
    fun {σ' H' v u} J rv q => ⟨v, H', J.os, J.bare, J.base, J.hok, rv, q⟩
  cases fl with
  | ret u =>
    obtain ⟨v, σ', H', J, rv, q⟩ := hs
    exact fin J rv q
  | next =>
    obtain ⟨σ', H', J, q⟩ := hs
    exact fin (v := V.non) (u := Value.none) J rfl q
  | brk =>
    obtain ⟨_, _, _, q⟩ := hs
    exact False.elim q
  | cont =>
    obtain ⟨_, _, _, q⟩ := hs
    exact False.elim q
end L2

namespace L2
open PySem PySem.Spec PyProof.Rows
section
variable {X : Cx} {x : Str} {p pos : Pos} {e : Expr} {es : List Expr} {t : TA} {id T : String} {r : List V → Hp → VK → Prop}

def tCB (r : List V → Hp → VK → Prop) (t : TA) : TE := fun σ H Q => t σ H fun vs H1 => r vs H1 Q
/-- f(e, ..), f a built-in function -/
theorem pe_callB (hc : CallR X (.builtin id) r) (hg : Gl X x) (hm : X.mg x = none) (hv : bootBuiltins x = some (.builtin id)) (ha : PA X (e :: es) t) (hn : x ≠ "__name__" := by decide) (hdb : (x == ("__debug__" : Str)) = false := by decide)
    (he : starEach (e :: es) X.env = (false, eval e X.env) :: starEach es X.env := by rfl) (hpl : (backTo pos (starEach es X.env)).any (·.1) = false := by rfl) : PE X (.Call (.Name x p) (e :: es) [] pos) (tCB r t) := by
  intro pins s σ H Q I h
  refine wpAny_Call_Name_kw (ld_blt I hg hm hv ?_ hn hdb)
  exact PyProof.Rows.callWith_builtin1 (thn (ha pos pins s σ H _ I h) fun us s1 ⟨vs, H1, I1, r1, q1⟩ => hc pins s1 σ H1 vs us Q I1 r1 q1) he hpl
end
end L2

namespace HT
open PySem PyProof.Rows

section
open PySem.SeqAt
open PySem.AutoSeq1 (wpAny_loadPart')
open PySem.MeetsSeq PySem.MeetsSeq2 PySem.MeetsSeq3

end

section
variable {prog : Program} {w : World} {A : Around} {E : Value → Shared → Prop} {s : Shared}

/-! ### t[a:b], not the whole -/
/-- a slice's bound as a place among n (d where it is left out) -/
def sIx (n d : Nat) : Option Int → Nat
  | none => d
  | some v => if v < 0 then (v + (n : Int)).toNat else min v.toNat n
end
end HT

namespace L2
open PySem PySem.Spec PyProof.Rows

/-! ### the parts of a slice -/
abbrev TO := St → Hp → (Option Int → Hp → Prop) → Prop
/-- a slice's part (left out, or an int) -/
def PO (X : Cx) (e : Option Expr) (t : TO) : Prop :=
  ∀ (pins : List (Addr × Obj)) (s : Shared) (σ : St) (H : Hp) (Q : Option Int → Hp → Prop), Inv X pins σ H s → t σ H Q →
    wpAny (model X.prog X.w) X.A (evalPart e X.env) (fun u s' => ∃ o H', Inv X pins σ H' s' ∧ IsPart u o ∧ Q o H') X.xe s
def tNoPart : TO := fun _ H Q => Q none H
def tPart (t : TE) : TO := fun σ H Q => t σ H fun x H1 => ∃ i, x = .int i ∧ Q (some i) H1

section
variable {X : Cx} {e : Expr} {te : TE} {lo hi : Option Expr} {tl th : TO} {pos p2 : Pos}

theorem po_none : PO X none tNoPart := by
  intro pins s σ H Q I h
  rw [evalPart_none]
  exact wpAny_pure ⟨none, H, I, .none, h⟩
theorem po_some (h : PE X e te) : PO X (some e) (tPart te) := by
  intro pins s σ H Q I hw
  rw [evalPart_some]
  refine thn (h pins s σ H _ I hw) fun u s1 ⟨x, H1, I1, r1, q1⟩ => ?_
  obtain ⟨i, rfl, q⟩ := q1
  obtain ⟨t, rfl⟩ := r1
  exact ⟨some i, H1, I1, .int i t, q⟩

/-- what a slice of a value is, by values: the slice object stands at sl -/
def SlR (X : Cx) (r : V → Option Int → Option Int → Hp → VK → Prop) : Prop :=
  ∀ (pins : List (Addr × Obj)) (s : Shared) (σ : St) (H : Hp) (x : V) (v vl vu : Value) (lo hi : Option Int) (sl : Addr) (Q : VK), Inv X pins σ H s → RelV x v → s.heap.IsSliceOf sl vl vu .none → IsPart vl lo → IsPart vu hi → r x lo hi H Q →
    ∃ T id, typeLookup (.type T) "__getitem__" = pure (some (.builtin id)) ∧ s.TypeIs v T ∧ wpAny (model X.prog X.w) X.A (getItem v (.ref sl)) (EP X pins σ Q) X.xe s
def tSl (r : V → Option Int → Option Int → Hp → VK → Prop) (te : TE) (tl th : TO) : TE := fun σ H Q => te σ H fun x H1 => tl σ H1 fun l H2 => th σ H2 fun u H3 => r x l u H3 Q
/-- a[lo:hi], any a -/
theorem pe_slice {r : V → Option Int → Option Int → Hp → VK → Prop} (hr : SlR X r) (he : PE X e te) (hl : PO X lo tl) (hu : PO X hi th) : PE X (.Subscript e (.Slice lo hi none p2) pos) (tSl r te tl th) := by
  intro pins s σ H Q I h
  refine Subscript_ (thn (he pins s σ H _ I h) fun v s1 ⟨x, H1, I1, r1, q1⟩ => ?_)
  refine wpAny_Slice (thn (hl pins s1 σ H1 _ I1 q1) fun vl s2 ⟨l, H2, I2, pl, q2⟩ => thn (hu pins s2 σ H2 _ I2 q2) fun vu s3 ⟨u, H3, I3, pu, q3⟩ => ?_)
  rw [evalPart_none]
  refine wpAny_pure ?_
  have I4 : Inv X pins σ H3 { s3 with heap := s3.heap.push { cls := .type "slice", data := .fields #[vl, vu, .none] } } := I3.kept (t' := s3.toks) fun b ob q => Heap.get?_push_of_some _ q
  obtain ⟨T, id, hT, ht, hg⟩ := hr pins { s3 with heap := s3.heap.push { cls := .type "slice", data := .fields #[vl, vu, .none] } } σ H3 x v vl vu l u s3.heap.objs.size Q I4 r1 (Heap.IsSliceOf.new ..) pl pu q3
  show wpAny (model X.prog X.w) X.A (subscriptTail e (.Slice lo hi none p2) v (.ref s3.heap.objs.size)) (EP X pins σ Q) X.xe { s3 with heap := s3.heap.push { cls := .type "slice", data := .fields #[vl, vu, .none] } }
  exact tail_any (ops := [.ref s3.heap.objs.size, v]) ht hT hg (by with_unfolding_all rfl)

/-- the items of xs[lo:hi] -/
def cutV (xs : List V) (lo hi : Option Int) : List V := (xs.drop (HT.sIx xs.length 0 lo)).take (HT.sIx xs.length xs.length hi - HT.sIx xs.length 0 lo)
theorem cutV_length (xs : List V) (lo hi : Option Int) : (cutV xs lo hi).length ≤ xs.length := by
  unfold cutV
  rw [List.length_take, List.length_drop]
  omega
/-! ### t < u, t + u -/
end
end L2

namespace L2
open PySem PySem.Spec PyProof.Rows

/-! ### places -/
/-- the place that an index of any sign means -/
def ixN (n : Nat) (i : Int) : Option Nat := if 0 ≤ i then (if i < n then some i.toNat else none) else if -(n : Int) ≤ i then some (i + n).toNat else none
def atI {α : Type} (xs : List α) (i : Int) : Option α := (ixN xs.length i).bind fun j => xs[j]?
theorem ixN_seq {n : Nat} {i : Int} {j : Nat} (h : ixN n i = some j) : seqIndex? i n = some j ∧ j < n ∧ -(n : Int) ≤ i ∧ i < n := by
  unfold ixN at h
  by_cases h0 : 0 ≤ i
  · rw [if_pos h0] at h
    by_cases h1 : i < n
    · rw [if_pos h1] at h
      have e : i.toNat = j := Option.some.inj h
      exact ⟨by rw [seqIndex_of h0 h1, e], by omega, by omega, h1⟩
    · rw [if_neg h1] at h; cases h
  · rw [if_neg h0] at h
    by_cases h1 : -(n : Int) ≤ i
    · rw [if_pos h1] at h
      have e : (i + n).toNat = j := Option.some.inj h
      exact ⟨by rw [seqIndex_neg (by omega) h1, e], by omega, h1, by omega⟩
    · rw [if_neg h1] at h; cases h
theorem atI_get {α : Type} {xs : List α} {i : Int} {v : α} (h : atI xs i = some v) : ∃ j, seqIndex? i xs.length = some j ∧ xs[j]? = some v ∧ j < xs.length ∧ -(xs.length : Int) ≤ i ∧ i < xs.length := by
  unfold atI at h
  cases e : ixN xs.length i with
  | none => rw [e] at h; cases h
  | some j =>
    rw [e] at h
    obtain ⟨h1, h2, h3, h4⟩ := ixN_seq e
    exact ⟨j, h1, h, h2, h3, h4⟩
theorem atI_nat {α : Type} {xs : List α} {j : Nat} {v : α} (h : xs[j]? = some v) : atI xs (j : Int) = some v := by
  have hj : j < xs.length := (List.getElem?_eq_some_iff.mp h).1
  have e : ixN xs.length (j : Int) = some j := by
    unfold ixN
    rw [if_pos (by omega), if_pos (by omega)]; simp
  unfold atI; rw [e]; exact h
/-! ### what may be subscripted -/
/-- what stands as an index of a plain subscript -/
def PlainIx (b : Expr) : Prop := ∀ o i, subscripted b false o i = operate [o, i] (getItem o i)
/-- a subscript by values -/
def IxR (X : Cx) (r : R2) : Prop :=
  ∀ (value slice : Expr) (pins : List (Addr × Obj)) (s : Shared) (σ : St) (H : Hp) (x y : V) (v u : Value) (Q : VK), Inv X pins σ H s → RelV x v → RelV y u → r x y H Q →
    subscripted slice false v u = operate [v, u] (getItem v u) → wpAny (model X.prog X.w) X.A (subscriptTail value slice v u) (EP X pins σ Q) X.xe s
/-- a call of a builtin's method by values: the receiver, the arguments -/
def MtR (X : Cx) (id : String) (r : V → List V → Hp → VK → Prop) : Prop :=
  ∀ (pins : List (Addr × Obj)) (s : Shared) (σ : St) (H : Hp) (x : V) (xs : List V) (v : Value) (us : List Value) (Q : VK), Inv X pins σ H s → RelV x v → Vals xs us → r x xs H Q →
    wpAny (model X.prog X.w) X.A (call (.builtin id) (v :: us)) (EP X pins σ Q) X.xe s
section
variable {X : Cx} {a b : Expr} {ta tb : TE} {pos : Pos}
/-- a[b] -/
theorem pe_ix {r : R2} (hr : IxR X r) (ha : PE X a ta) (hb : PE X b tb) (hs : PlainIx b) : PE X (.Subscript a b pos) (tOp r ta tb) := by
  intro pins s σ H Q I h
  exact Subscript_ (binT ha hb I h fun v u s2 x y H2 I2 rx ry q => hr a b pins s2 σ H2 x y v u Q I2 rx ry q (hs _ _))

def rIxL (K : PySem.W.Frag) : R2 := fun x y H Q => ∃ p xs i v, x = .ref p ∧ y = .int i ∧ SqL K H p xs ∧ atI xs i = some v ∧ Q v H
def rIxT (K : PySem.W.Frag) : R2 := fun x y H Q => ∃ p xs i v, x = .ref p ∧ y = .int i ∧ SqT K H p xs ∧ atI xs i = some v ∧ Q v H
theorem ix_list : IxR X (rIxL X.K) := by
  intro value slice pins s σ H x y v u Q I rx ry h hs
  obtain ⟨p, xs, i, z, rfl, rfl, hq, he, q⟩ := h
  cases rx
  obtain ⟨t, rfl⟩ := ry
  obtain ⟨its, r, pl, hz⟩ := I.list hq
  obtain ⟨j, h1, h2, h3, h4, h5⟩ := atI_get he
  obtain ⟨w, ew, rw'⟩ := r.get h2
  have hl := r.length
  have hn := line63
  have fin : EP X pins σ Q w s := ⟨z, H, I, rw', q⟩
  by_cases h0 : 0 ≤ i
  · have hj : i.toNat = j := by
      rw [seqIndex_of h0 h5] at h1
      exact Option.some.inj h1
    exact item_listR pl.isList h0 (by omega) (by rw [hj]; simpa using ew) fin hs
  · have hj : (i + (its.toArray.size : Int)).toNat = j := by
      rw [seqIndex_neg (by omega) h4] at h1
      rw [List.size_toArray, ← hl]
      exact Option.some.inj h1
    exact subscriptTail_builtinR (x := w) pl.isList.typeIs slot_list_getitem.lookup
      (wpAny_getItem_list_neg (Q := fun r s' => r = w ∧ EP X pins σ Q r s') pl.isList (by omega) (by rw [List.size_toArray] <;> omega) (by omega) (by rw [hj]; simpa using ew) ⟨rfl, fin⟩) hs
theorem ix_tup : IxR X (rIxT X.K) := by
  intro value slice pins s σ H x y v u Q I rx ry h hs
  obtain ⟨p, xs, i, z, rfl, rfl, hq, he, q⟩ := h
  cases rx
  obtain ⟨t, rfl⟩ := ry
  obtain ⟨its, r, pl, hz⟩ := I.tuple hq
  obtain ⟨j, h1, h2, h3, h4, h5⟩ := atI_get he
  obtain ⟨w, ew, rw'⟩ := r.get h2
  have hl := r.length
  have hn := line63
  have fin : EP X pins σ Q w s := ⟨z, H, I, rw', q⟩
  exact subscriptTail_builtinR (x := w) pl.typeIs slot_tuple_getitem.lookup
    (getItem_tuple (j := j) (Q := fun r s' => r = w ∧ EP X pins σ Q r s') pl (by omega) (by omega) (by rw [List.size_toArray, ← hl]; exact h1) (by simpa using ew) ⟨rfl, fin⟩) hs
/-! ### xs[i] = v, any sign -/
/-- the list's object behind a store -/
theorem mapSeq_set (its : List Value) (n j : Nat) (u : Value) : Obj.mapSeq (·.setIfInBounds j u) { cls := .type "list", data := .seq its.toArray n } = { cls := .type "list", data := .seq (its.set j u).toArray n } := by
  simp [Obj.mapSeq]
theorem Inv.lst {pins : List (Addr × Obj)} {σ : St} {H : Hp} {s : Shared} {p : Addr} {xs : List V} (I : Inv X pins σ H s) (h : H p = some (.lst xs)) :
    ∃ (its : List Value) (n : Nat), Vals xs its ∧ s.heap.get? p = some { cls := .type "list", data := .seq its.toArray n } ∧ xs.length ≤ sizeLine := by
  obtain ⟨z, its, n, r, e⟩ := I.hok p _ h
  exact ⟨its, n, r, e, z⟩
/-- the list at p is written by an update of its object -/
theorem Inv.lstUpd {pins : List (Addr × Obj)} {σ : St} {H : Hp} {s : Shared} {p : Addr} {xs ys : List V} {its its' : List Value} {n n' : Nat} {f : Obj → Obj} (I : Inv X pins σ H s) (h : H p = some (.lst xs))
    (ho : s.heap.get? p = some { cls := .type "list", data := .seq its.toArray n }) (hf : f { cls := .type "list", data := .seq its.toArray n } = { cls := .type "list", data := .seq its'.toArray n' }) (r : Vals ys its') (hz : ys.length ≤ sizeLine) (t : Nat) :
    Inv X pins σ (upd H p (.lst ys)) { s with heap := s.heap.update p f, toks := t } := by
  have e : (s.heap.update p f).get? p = some { cls := .type "list", data := .seq its'.toArray n' } := by
    rw [Heap.get?_update_self f ho (by rw [hf] <;> rfl), hf]
  refine I.write (x := p) (e := p) (by rw [h]; trivial) (.inl rfl) (fun b u hb q => (Heap.get?_update_other _ _ (Ne.symm hb)).trans q) ⟨_, e⟩ ?_
  exact ⟨hz, its', n', r, e⟩
def rSetL : V → V → V → Hp → (Hp → Prop) → Prop := fun o i v H Q => ∃ p xs k j, o = .ref p ∧ i = .int k ∧ H p = some (.lst xs) ∧ ixN xs.length k = some j ∧ Q (upd H p (.lst (xs.set j v)))
theorem set_list : PSet X rSetL := by
  intro pins s σ H o i v ov iv u Q I ro ri rv h
  obtain ⟨p, xs, k, j, rfl, rfl, hp, hj, q⟩ := h
  cases ro
  obtain ⟨t, rfl⟩ := ri
  obtain ⟨its, n, r, ho, hz⟩ := I.lst hp
  obtain ⟨h1, h2, h3, h4⟩ := ixN_seq hj
  have hl := r.length
  have hn := line63
  have I' : Inv X pins σ (upd H p (.lst (xs.set j v))) { s with heap := s.heap.update p (Obj.mapSeq (·.setIfInBounds j u)) } :=
    I.lstUpd hp ho (mapSeq_set its n j u) (r.set rv j) (by rw [List.length_set]; exact hz) s.toks
  by_cases h0 : 0 ≤ k
  · have hk : k.toNat = j := by
      rw [seqIndex_of h0 h4] at h1
      exact Option.some.inj h1
    exact PySem.W.ki_setAt ho h0 (by omega) (by rw [List.size_toArray, ← hl]; exact h4) (by rw [hk]; exact ⟨_, I', q⟩)
  · have hk : (k + (its.toArray.size : Int)).toNat = j := by
      rw [seqIndex_neg (by omega) h3] at h1
      rw [List.size_toArray, ← hl]
      exact Option.some.inj h1
    exact PySem.W.ki_setBack ho (by omega) (by rw [List.size_toArray, ← hl]; exact h3) (by omega) (by rw [hk]; exact ⟨_, I', q⟩)

/-! ### slices -/
theorem slice_bounds (lo hi : Option Int) (n : Nat) : (sliceBounds lo hi none n).1 = ((HT.sIx n 0 lo : Nat) : Int) ∧ (sliceBounds lo hi none n).2.1 = ((HT.sIx n n hi : Nat) : Int) ∧ (sliceBounds lo hi none n).2.2 = 1 := by
  refine ⟨?_, ?_, rfl⟩
  · cases lo with
    | none => simp [sliceBounds, HT.sIx]
    | some i =>
      simp only [sliceBounds, HT.sIx, Option.getD_none, show (1 : Int) > 0 by decide, if_true]
      by_cases h : i < 0
      · simp only [h, if_true] <;> omega
      · simp only [h, if_false] <;> omega
  · cases hi with
    | none => simp [sliceBounds, HT.sIx]
    | some i =>
      simp only [sliceBounds, HT.sIx, Option.getD_none, show (1 : Int) > 0 by decide, if_true]
      by_cases h : i < 0
      · simp only [h, if_true] <;> omega
      · simp only [h, if_false] <;> omega
theorem slicePick_cut (its : List Value) (lo hi : Option Int) : slicePick its.toArray lo hi none = ((its.drop (HT.sIx its.length 0 lo)).take (HT.sIx its.length its.length hi - HT.sIx its.length 0 lo)).toArray := by
  obtain ⟨h1, h2, h3⟩ := slice_bounds lo hi its.toArray.size
  unfold slicePick
  rw [h1, h2, h3]
  simp only [sliceRange_one, pick_run, List.size_toArray] <;> rfl
/-- xs[lo:hi] of a list: a new list -/
def rSlL (K : PySem.W.Frag) : V → Option Int → Option Int → Hp → VK → Prop := fun x lo hi H Q => ∃ a xs, x = .ref a ∧ SqL K H a xs ∧ ∀ p, H p = none → Q (.ref p) (upd H p (.lst (cutV xs lo hi)))
theorem sl_list : SlR X (rSlL X.K) := by
  intro pins s σ H x v vl vu lo hi sl Q I rx hs pl pu h
  obtain ⟨a, xs, rfl, hx, q⟩ := h
  cases rx
  obtain ⟨its, r, ht, hz⟩ := I.list hx
  have hlen := r.length
  refine ⟨"list", _, slot_list_getitem.lookup, ht.isList.typeIs, ?_⟩
  refine wpAny_getItem_list_slice ht.isList hs pl pu .none (by simp) ?_ (by rw [List.size_toArray] <;> omega)
  rw [slicePick_cut, ← hlen]
  refine ⟨.ref s.heap.objs.size, _, I.laid (t' := s.toks) (o := .lst (cutV xs lo hi)) (fun b ob q => Heap.get?_push_of_some _ q) (Nat.le_refl _) ?_, rfl, q _ (I.hok.fresh (Nat.le_refl _))⟩
  exact ⟨Nat.le_trans (cutV_length xs lo hi) hz, _, 0, (r.drop (HT.sIx xs.length 0 lo)).take (HT.sIx xs.length xs.length hi - HT.sIx xs.length 0 lo), Heap.get?_push_size _ rfl⟩

/-! ### in, not in: flat items -/
/-! ### len, list(x), tuple(x) of any list or tuple that is read -/
theorem call_len_seq : CallR X (.builtin "len") (fun xs H Q => ∃ p ys, xs = [.ref p] ∧ (SqL X.K H p ys ∨ SqT X.K H p ys) ∧ Q (.int ys.length) H) := by
  intro pins s σ H xs us Q I r h
  obtain ⟨p, ys, rfl, hq, q⟩ := h
  obtain ⟨u, rfl, rx⟩ := vals1 r
  cases rx
  have hn := line63
  rcases hq with hq | hq
  · obtain ⟨its, r', pl, hz⟩ := I.list hq
    have hlen := r'.length
    exact Calls.call_len_list pl.isList (by simp only [List.size_toArray] <;> omega) ⟨.int ys.length, H, I.tok _, ⟨s.toks + 1, by rw [List.size_toArray, hlen]⟩, q⟩
  · obtain ⟨its, r', pl, hz⟩ := I.tuple hq
    have hlen := r'.length
    exact len_tuple pl (by simp only [List.size_toArray] <;> omega) ⟨.int ys.length, H, I.tok _, ⟨s.toks + 1, by rw [List.size_toArray, hlen]⟩, q⟩
/-! ### the call of a builtin's method: o.m(..) -/
/-- the value is of that builtin type -/
def tyV (K : PySem.W.Frag) (T : String) (x : V) (H : Hp) : Prop := match x with
  | .str _ => T = "str"
  | .int _ => T = "int"
  | .ref p => (T = "list" ∧ ∃ xs, SqL K H p xs) ∨ (T = "tuple" ∧ ∃ o, K.lookup p = some o ∧ o.cls = .type "tuple" ∧ o.dict = none) ∨
      (T = "dict" ∧ ((∃ kvs, H p = some (.dK kvs)) ∨ ∃ kvs, H p = some (.dT kvs))) ∨ (T = "set" ∧ ∃ S n, H p = some (.set S n))
  | _ => False
theorem tyV_is {pins : List (Addr × Obj)} {σ : St} {H : Hp} {s : Shared} {T : String} {x : V} {v : Value} (I : Inv X pins σ H s) (r : RelV x v) (ty : tyV X.K T x H) :
    s.TypeIs v T ∧ ∀ a, v = .ref a → ∃ ob, s.heap.get? a = some ob ∧ ob.dict = none := by
  cases x with
  | str z =>
    obtain ⟨t, rfl⟩ := r
    cases (show T = "str" from ty)
    exact ⟨typeIs_str s z t, fun _ e => nomatch e⟩
  | int i =>
    obtain ⟨t, rfl⟩ := r
    cases (show T = "int" from ty)
    exact ⟨typeIs_int s i t, fun _ e => nomatch e⟩
  | ref p =>
    cases r
    rcases ty with ⟨rfl, xs, hq⟩ | ⟨rfl, o, hk, hc, hd⟩ | ⟨rfl, hk⟩ | ⟨rfl, S, n, hk⟩
    · obtain ⟨its, _, pl, _⟩ := I.list hq
      refine ⟨pl.isList.typeIs, fun a e => ?_⟩
      cases e
      obtain ⟨o, n, e, c, hd, _⟩ := pl
      exact ⟨o, e, hd⟩
    · refine ⟨⟨o, I.kIn p o hk, hc⟩, fun a e => ?_⟩
      cases e
      exact ⟨o, I.kIn _ o hk, hd⟩
    · have z : ∃ o, s.heap.get? p = some o ∧ o.ExactDict := by
        rcases hk with ⟨kvs, hk⟩ | ⟨kvs, hk⟩
        · obtain ⟨_, _, _, _, o, _, _, e, ex, _⟩ := I.hok p _ hk
          exact ⟨o, e, ex⟩
        · obtain ⟨_, _, _, _, o, _, _, e, ex, _⟩ := I.hok p _ hk
          exact ⟨o, e, ex⟩
      obtain ⟨o, e, ex⟩ := z
      refine ⟨⟨o, e, ex.1⟩, fun a e2 => ?_⟩
      cases e2
      exact ⟨o, e, ex.2.1⟩
    · obtain ⟨o, _, _, _, e, ex, _⟩ := I.hok p _ hk
      refine ⟨⟨o, e, ex.1⟩, fun a e2 => ?_⟩
      cases e2
      exact ⟨o, e, ex.2.1⟩
  | _ => exact False.elim ty
def tBM0 (K : PySem.W.Frag) (T : String) (r : V → List V → Hp → VK → Prop) (to : TE) : TE := fun σ H Q => to σ H fun x H1 => tyV K T x H1 ∧ r x [] H1 Q
def tBM (K : PySem.W.Frag) (T : String) (r : V → List V → Hp → VK → Prop) (to : TE) (t : TA) : TE := fun σ H Q => to σ H fun x H1 => tyV K T x H1 ∧ t σ H1 fun xs H2 => r x xs H2 Q
variable {o e : Expr} {es : List Expr} {to : TE} {t : TA} {name : Str} {apos cpos : Pos} {T id : String} {r : V → List V → Hp → VK → Prop}
theorem pe_bm0 (pa : PlainAttrs T) (slot : Slot T name id) (hty : typeOf (.builtin id) = pure (.type "method_descriptor")) (hm : MtR X id r) (ho : PE X o to)
    (hbase : attributeBase o name X.env (eval o X.env) = eval o X.env := by rfl) (hline : (apos.endLine == cpos.line) = true := by rfl) : PE X (.Call (.Attribute o name apos) [] [] cpos) (tBM0 X.K T r to) := by
  intro pins s σ H Q I h
  refine wpAny_Call_method0_late hbase hline (thn (ho pins s σ H _ I h) fun v s1 ⟨x, H1, I1, r1, ty, q1⟩ => ?_)
  obtain ⟨h1, h2⟩ := tyV_is I1 r1 ty
  exact ⟨T, id, pa, slot, hty, h1, h2, Calls.callWith_builtin rfl (PySem.evalArgs_none (hm pins s1 σ H1 x [] v [] Q I1 r1 .nil q1))⟩
theorem pe_bm (pa : PlainAttrs T) (slot : Slot T name id) (hty : typeOf (.builtin id) = pure (.type "method_descriptor")) (hm : MtR X id r) (ho : PE X o to) (ha : PA X (e :: es) t)
    (hbase : attributeBase o name X.env (eval o X.env) = eval o X.env := by rfl)
    (hfew : ((backTo cpos (starEach (e :: es) X.env)).all (fun x => !x.1) && (backToKw cpos (keywordEach [] X.env)).all (fun x => x.1.isSome)
      && decide ((e :: es).length + ([] : List Keyword).length + (if ([] : List Keyword).isEmpty then 0 else 1) < 30)) = true := by rfl)
    (hline : (apos.endLine == cpos.line) = true := by rfl) (hs : starEach (e :: es) X.env = (false, eval e X.env) :: starEach es X.env := by rfl) (hplain : (backTo cpos (starEach es X.env)).any (·.1) = false := by rfl) :
    PE X (.Call (.Attribute o name apos) (e :: es) [] cpos) (tBM X.K T r to t) := by
  intro pins s σ H Q I h
  refine wpAny_Call_method_late hbase hfew hline rfl (thn (ho pins s σ H _ I h) fun v s1 ⟨x, H1, I1, r1, ty, q1⟩ => ?_)
  obtain ⟨h1, h2⟩ := tyV_is I1 r1 ty
  refine ⟨T, id, pa, slot, hty, h1, h2, ?_⟩
  have hA := ha cpos pins s1 σ H1 _ I1 q1
  rw [hs] at hA ⊢
  refine Calls.callWith_builtin (by show (false || (backTo cpos (starEach es X.env)).any (·.1)) = false; rw [hplain] <;> rfl) (Calls.evalArgs_plain ?_)
  exact thn hA fun us s2 ⟨vs, H2, I2, r2, q2⟩ => hm pins s2 σ H2 x vs v us Q I2 r1 r2 q2
/- xs.append(e), list.index on a module's tuple .. are MtR facts of 06m -/
end
end L2

namespace L2
open PySem PySem.Spec PyProof.Rows

def MtM (X : Cx) (id : String) (r : V → List V → Hp → VK → Prop) : Prop :=
  ∀ (pins : List (Addr × Obj)) (s : Shared) (σ : St) (H : Hp) (x : V) (xs : List V) (v : Value) (us : List Value) (Q : VK), Inv X pins σ H s → RelV x v → Vals xs us → r x xs H Q →
    wpAny (model X.prog X.w) X.A (call (.builtin id) (v :: us)) (EP X pins σ Q) X.xe s

/-! ### lists of values -/
theorem Vals.one : ∀ {x : V} {us : List Value}, Vals [x] us → ∃ u, us = [u] ∧ RelV x u
  | _, _, .cons r .nil => ⟨_, rfl, r⟩
theorem Vals.rep {xs : List V} {us : List Value} (h : Vals xs us) : ∀ k : Nat, Vals (List.replicate k xs).flatten (List.replicate k us).flatten
  | 0 => .nil
  | k + 1 => by
    rw [List.replicate_succ, List.replicate_succ, List.flatten_cons, List.flatten_cons]
    exact Vals.append h (Vals.rep h k)
theorem foldl_rep (its : List Value) : ∀ (k : Nat) (acc : List Value),
    List.foldl (fun x1 x2 => x1 ++ x2) acc.toArray (List.replicate k its.toArray) = (acc ++ (List.replicate k its).flatten).toArray
  | 0, acc => by simp
  | k + 1, acc => by
    have e : acc.toArray ++ its.toArray = (acc ++ its).toArray := by simp
    have e2 : (acc ++ its) ++ (List.replicate k its).flatten = acc ++ (List.replicate (k + 1) its).flatten := by
      rw [List.replicate_succ, List.flatten_cons, List.append_assoc]
    rw [← e2, ← foldl_rep its k (acc ++ its), ← e, List.replicate_succ, List.foldl_cons]

section
variable {X : Cx} {pins : List (Addr × Obj)} {σ : St} {H : Hp} {s : Shared} {l b : Addr} {xs ys zs : List V}

/-! ### the two steps: a tracked list is rewritten, a new list is laid -/
theorem Inv.lset {its its' : List Value} {n : Nat} {f : Array Value → Array Value} {t' : Nat} (I : Inv X pins σ H s) (hH : H l = some (.lst xs))
    (e : s.heap.get? l = some { cls := .type "list", data := .seq its.toArray n }) (hf : f its.toArray = its'.toArray) (hv : Vals ys its') (hz : ys.length ≤ sizeLine) :
    Inv X pins σ (upd H l (.lst ys)) { s with heap := s.heap.update l (Obj.mapSeq f), toks := t' } := by
  have q := PySem.IsL.update e f
  rw [hf] at q
  refine I.write (x := l) (e := l) (by rw [hH]; exact trivial) (.inl rfl) (fun b' u hb hu => (Heap.get?_update_other s.heap (Obj.mapSeq f) (Ne.symm hb)).trans hu) ⟨_, q⟩ ?_
  exact ⟨hz, its', _, hv, q⟩
theorem Inv.lnew {its : List Value} {t' : Nat} (I : Inv X pins σ H s) (hv : Vals ys its) (hz : ys.length ≤ sizeLine) :
    Inv X pins σ (upd H s.heap.objs.size (.lst ys)) { s with heap := s.heap.push { cls := .type "list", data := .seq its.toArray }, toks := t' } :=
  I.laid (fun _ _ q => Heap.get?_push_of_some _ q) (Nat.le_refl _) ⟨hz, its, 0, hv, Heap.get?_push_size _ rfl⟩
theorem Inv.fresh (I : Inv X pins σ H s) : H s.heap.objs.size = none := I.hok.fresh (Nat.le_refl _)
theorem Inv.lstM (I : Inv X pins σ H s) (hH : H l = some (.lst xs)) : xs.length ≤ sizeLine ∧ ∃ (its : List Value) (n : Nat), Vals xs its ∧ xs.length = its.length ∧ s.heap.get? l = some { cls := .type "list", data := .seq its.toArray n } := by
  obtain ⟨z, its, n, r, e⟩ := I.hok l _ hH
  exact ⟨z, its, n, r, r.length, e⟩

theorem notLongL {n : Nat} (h : n ≤ sizeLine) : Builtin.List.listTooLong n = false := by
  unfold Builtin.List.listTooLong
  exact decide_eq_false (by omega)
end

section
variable {X : Cx}

/-! ### methods -/
def rAppend : V → List V → Hp → VK → Prop := fun x vs H Q => ∃ l xs y, x = .ref l ∧ vs = [y] ∧ H l = some (.lst xs) ∧ xs.length < sizeLine ∧ Q .non (upd H l (.lst (xs ++ [y])))
theorem mt_append : MtM X "list.append" rAppend := by
  intro pins s σ H x vs v us Q I rx rv h
  obtain ⟨l, xs, y, rfl, rfl, hH, hz, q⟩ := h
  cases rx
  obtain ⟨u, rfl, ru⟩ := rv.one
  obtain ⟨z, its, n, r, hl, e⟩ := I.lstM hH
  refine call_meets F.slot_list_append ⟨_, e, rfl⟩ F.entry_list_append (F.args_list_append_2 _ _) (PySem.list_append l its.toArray n u (by rw [List.size_toArray]; omega)) ⟨e, ?_⟩
  refine ⟨.non, _, I.lset (its' := its ++ [u]) hH e (by simp) (r.append (.cons ru .nil)) ?_, rfl, q⟩
  rw [List.length_append, List.length_singleton]
  omega

def rExtend : V → List V → Hp → VK → Prop := fun x vs H Q => ∃ l b xs zs, x = .ref l ∧ vs = [.ref b] ∧ H l = some (.lst xs) ∧ H b = some (.lst zs) ∧ xs.length + zs.length ≤ sizeLine ∧ Q .non (upd H l (.lst (xs ++ zs)))
theorem mt_extend : MtM X "list.extend" rExtend := by
  intro pins s σ H x vs v us Q I rx rv h
  obtain ⟨l, b, xs, zs, rfl, rfl, hH, hB, hz, q⟩ := h
  cases rx
  obtain ⟨u, rfl, ru⟩ := rv.one
  cases ru
  obtain ⟨z, its, n, r, hl, e⟩ := I.lstM hH
  obtain ⟨z2, its2, n2, r2, hl2, e2⟩ := I.lstM hB
  have hsz : its.toArray.size + its2.toArray.size ≤ sizeLine := by rw [List.size_toArray, List.size_toArray]; omega
  have hlong : ¬ (!its.toArray.isEmpty && Builtin.List.listTooLong (its.toArray.size + its2.toArray.size)) = true := by
    rw [notLongL hsz, Bool.and_false]
    exact Bool.false_ne_true
  refine call_meets F.slot_list_extend ⟨_, e, rfl⟩ F.entry_list_extend (F.args_list_extend_2 _ _)
    (AutoSeq1.list_extend_list_list_0 l its.toArray n b its2.toArray n2 hlong (by rw [List.size_toArray]; omega) (by omega)) ⟨e, e2, ?_⟩
  refine ⟨.non, _, I.lset (its' := its ++ its2) hH e (by simp) (r.append r2) ?_, rfl, q⟩
  rw [List.length_append]
  omega

/-! ### list + list, list += list, list * int -/
def rCat : R2 := fun x y H Q => ∃ l b xs zs, x = .ref l ∧ y = .ref b ∧ H l = some (.lst xs) ∧ H b = some (.lst zs) ∧ xs.length + zs.length ≤ sizeLine ∧ ∀ p, H p = none → Q (.ref p) (upd H p (.lst (xs ++ zs)))
theorem op_cat : OpR X (binaryOp .Add) rCat := by
  intro pins s σ H x y v u Q I rx ry h
  obtain ⟨l, b, xs, zs, rfl, rfl, hH, hB, hz, q⟩ := h
  cases rx
  cases ry
  obtain ⟨z, its, n, r, hl, e⟩ := I.lstM hH
  obtain ⟨z2, its2, n2, r2, hl2, e2⟩ := I.lstM hB
  refine PySem.P.add_list e e2 ?_ (by rw [List.size_toArray, List.size_toArray]; omega)
  have ea : its.toArray ++ its2.toArray = (its ++ its2).toArray := by simp
  rw [ea]
  exact ⟨.ref _, _, I.lnew (t' := s.toks) (r.append r2) (by rw [List.length_append]; omega), rfl, q _ I.fresh⟩
/-- a list times an int (a negative one is nothing) -/
def rRep : R2 := fun x y H Q => ∃ l k xs, x = .ref l ∧ y = .int k ∧ H l = some (.lst xs) ∧ -(2 ^ 63) ≤ k ∧ k < 2 ^ 63 ∧ xs.length * k.toNat ≤ sizeLine ∧
  ∀ p, H p = none → Q (.ref p) (upd H p (.lst (List.replicate k.toNat xs).flatten))
theorem len_rep {α : Type} (xs : List α) (k : Nat) : (List.replicate k xs).flatten.length = k * xs.length := by
  induction k with
  | zero => simp
  | succ k ih => rw [List.replicate_succ, List.flatten_cons, List.length_append, ih, Nat.succ_mul, Nat.add_comm]
theorem op_rep : OpR X (binaryOp .Mult) rRep := by
  intro pins s σ H x y v u Q I rx ry h
  obtain ⟨l, k, xs, rfl, rfl, hH, h1, h2, hz, q⟩ := h
  cases rx
  obtain ⟨t, rfl⟩ := ry
  obtain ⟨z, its, n, r, hl, e⟩ := I.lstM hH
  have hlen : its.toArray.size * k.toNat ≤ sizeLine := by rw [List.size_toArray, ← hl]; exact hz
  have hcap : ¬ its.toArray.size * k.toNat > (2 ^ 63 - 1) / 8 := by
    have : (sizeLine : Nat) ≤ (2 ^ 63 - 1) / 8 := by decide
    omega
  have hfit : ¬ (!Builtin.List.listFitsIndex k) = true := by
    rw [fitsIndex_both h1 h2]
    exact Bool.false_ne_true
  have hlong : ¬ Builtin.List.listTooLong (its.toArray.size * k.toNat) = true := by
    rw [notLongL hlen]
    exact Bool.false_ne_true
  have hnew : List.foldl (fun x1 x2 => x1 ++ x2) #[] (List.replicate (if its.toArray.isEmpty = true then 0 else k.toNat) its.toArray) = (List.replicate k.toNat its).flatten.toArray := by
    have f0 : ∀ m : Nat, List.foldl (fun x1 x2 => x1 ++ x2) #[] (List.replicate m its.toArray) = (List.replicate m its).flatten.toArray := fun m => by
      have := foldl_rep its m []
      rw [List.nil_append] at this
      exact this
    rw [f0]
    cases its with
    | nil => simp
    | cons a r' => rw [if_neg (by simp)]
  refine wpAny_binaryOp_repeat_ref (T := "list") (U := "int") (by decide) ⟨_, e, rfl⟩ (fun s' => typeIs_int s' k t) noFill_list_mul F.fills_int_mul F.slot_int_rmul repeat_list F.slot_int_index.lookup
    (call_meets F.slot_int_rmul (typeIs_int s k t) F.entry_int_rmul (F.args_int_rmul_2 _ _) (int___rmul___int_list k t l its.toArray n)
      ⟨e, rfl, ⟨_, e, rfl⟩, call_meets F.slot_list_mul ⟨_, e, rfl⟩ F.entry_list_mul (F.args_list_mul_2 _ _) (AutoListH.list___mul___list_int_3 l its.toArray n k t hfit hcap hlong) ⟨e, ?_⟩⟩)
  rw [hnew]
  exact ⟨.ref _, _, I.lnew (t' := s.toks) (r.rep k.toNat) (by rw [len_rep, Nat.mul_comm]; exact hz), rfl, q _ I.fresh⟩

/-! ### del xs[i] -/
end

/-! ### xs[a:b] = ys -/
section
variable {prog : Program} {w : World} {A : Around} {E : Value → Shared → Prop} {s : Shared}
set_option maxRecDepth 100000 in
end

section
variable {X : Cx}
end
end L2

namespace L2
open PySem PySem.Spec PyProof.Rows

theorem Vals.ints : ∀ {ns : List Int} {us : List Value}, Vals (ns.map V.int) us → IntsAre us ns
  | [], us, h => by
    rw [List.map_nil] at h
    cases h
    exact IntsAre.nil
  | n :: ns, us, h => by
    rw [List.map_cons] at h
    cases h with
    | cons r t =>
      obtain ⟨k, rfl⟩ := r
      exact IntsAre.cons n k (Vals.ints t)
theorem Vals.bls : ∀ {bs : List Bool} {us : List Value}, Vals (bs.map V.bl) us → us = bs.map Value.bool
  | [], us, h => by
    rw [List.map_nil] at h
    cases h
    rfl
  | b :: bs, us, h => by
    rw [List.map_cons] at h
    cases h with
    | cons r t =>
      cases r
      rw [Vals.bls t, List.map_cons]
theorem Vals.ref1 {a : Addr} {us : List Value} (r : Vals [V.ref a] us) : us = [Value.ref a] := by
  cases r with
  | cons r t =>
    cases t
    cases r
    rfl
/-! ### the library's walks over a list of ints, kept objects alone -/
section
variable {prog : Program} {w : World} {A : Around} {E : Value → Shared → Prop} {s : Shared} {l : Addr} {its : List Value} {ns : List Int} {Q : Value → Shared → Prop}
theorem sum_raw (hh : A.handled = none) (hl : s.heap.IsList l its.toArray) (hi : IntsAre its ns)
    (h : ∀ h' tk t', (∀ b o, s.heap.get? b = some o → h'.get? b = some o) → Q (.int ns.sum t') { s with heap := h', toks := tk }) : wpAny (model prog w) A (call (.builtin "sum") [.ref l]) Q E s := by
  obtain ⟨xs, e⟩ := hi.allInts.items
  have hn : numsOf (intItems xs).toList = ns := by rw [← e]; exact hi.numsOf
  rw [nums_intItems] at hn
  rw [e] at hl
  refine PySem.sum_intListG hh hl fun h' tk t' hk => ?_
  have := h h' tk t' hk
  rw [preSum_eq, List.take_of_length_le (by simp), hn]; exact this
end

/-! ### the calls, by values (CallR of 03t; MtR of 06l) -/
section
variable {X : Cx}
/-- sum(xs) of a list of ints -/
def rSum (K : PySem.W.Frag) : List V → Hp → VK → Prop := fun vs H Q => ∃ (a : Addr) (ns : List Int), vs = [V.ref a] ∧ SqL K H a (ns.map V.int) ∧ Q (.int ns.sum) H
theorem cr_sum (hc : X.calm = true) : CallR X (.builtin "sum") (rSum X.K) := by
  intro pins s σ H vs us Q I r h
  obtain ⟨a, ns, rfl, hs, q⟩ := h
  obtain ⟨its, rv, hl, _⟩ := I.list hs
  rw [Vals.ref1 r]
  exact sum_raw (I.ok.hd hc) hl.isList rv.ints fun h' tk t' hk => ⟨.int _, H, I.kept hk, ⟨_, rfl⟩, q⟩
/-! sorted, sort (fewer than 64 items: the library's own bound) -/
end

/-! ### list.index, flat items -/
section
variable {X : Cx}
end

/-! ### type(x) of an own instance; is, is not of a module's class -/
section
variable {X : Cx}
end

/-! ### any(xs), all(xs) of a list of bools -/
theorem iter_any {prog : Program} {w : World} {A : Around} {E : Value → Shared → Prop} {s : Shared} {l : Addr} {items : Array Value} {Q : Value → Shared → Prop} (hl : s.heap.IsList l items)
    (h : ∀ s₂ : Shared, s₂ = { s with heap := s.heap.push { cls := .type "list_iterator", data := .fields #[.ref l, .int 0 0] } } →
      (s₂.heap.IsListIter s.heap.objs.size l 0 ∧ s₂.heap.IsList l items) → l ≠ s.heap.objs.size → Q (.ref s.heap.objs.size) s₂) : wpAny (model prog w) A (pyIter (.ref l)) Q E s := by
  have hlt : l < s.heap.objs.size := by obtain ⟨_, e, _⟩ := hl; exact Heap.lt_size e
  exact wpAny_pyIter_list hl (h _ rfl ⟨⟨_, Heap.get?_push_size _ rfl, rfl, rfl⟩, hl.push _⟩ (Nat.ne_of_lt hlt))
theorem truth_bools {prog : Program} {w : World} {A : Around} {bs : List Bool} {its : List Value} (e : its = bs.map Value.bool) :
    TruthOf prog w A (fun i v => its.toArray[i]? = some v) (fun i => bs.getD i false) := fun i v s Q E hv hq => by
  have hv' : its[i]? = some v := by simpa using hv
  rw [e, List.getElem?_map] at hv'
  obtain ⟨b, hb, rfl⟩ := Option.map_eq_some_iff.mp hv'
  have hg : bs.getD i false = b := by rw [List.getD_eq_getElem?_getD, hb] <;> rfl
  have hq' : Q (bs.getD i false) s := hq
  rw [hg] at hq'
  exact wpAny_truthy_bool hq'
theorem any_range : ∀ bs : List Bool, (List.range bs.length).any (fun i => bs.getD i false) = bs.any id
  | [] => rfl
  | b :: bs => by
    rw [List.length_cons, List.range_succ_eq_map, List.any_cons, List.any_map, List.any_cons, ← any_range bs]
    all_goals rfl
theorem all_range : ∀ bs : List Bool, (List.range bs.length).all (fun i => bs.getD i false) = bs.all id
  | [] => rfl
  | b :: bs => by
    rw [List.length_cons, List.range_succ_eq_map, List.all_cons, List.all_map, List.all_cons, ← all_range bs]
    all_goals rfl
section
variable {X : Cx}
def rAny (K : PySem.W.Frag) : List V → Hp → VK → Prop := fun vs H Q => ∃ (a : Addr) (bs : List Bool), vs = [V.ref a] ∧ SqL K H a (bs.map V.bl) ∧ Q (.bl (bs.any id)) H
def rAll (K : PySem.W.Frag) : List V → Hp → VK → Prop := fun vs H Q => ∃ (a : Addr) (bs : List Bool), vs = [V.ref a] ∧ SqL K H a (bs.map V.bl) ∧ Q (.bl (bs.all id)) H
theorem cr_any (hc : X.calm = true) : CallR X (.builtin "any") (rAny X.K) := by
  intro pins s σ H vs us Q I r h
  obtain ⟨a, bs, rfl, hs, q⟩ := h
  obtain ⟨its, rv, hl, _⟩ := I.list hs
  rw [Vals.ref1 r]
  have hb := rv.bls
  refine call_any_walk (iter_any hl.isList fun s₂ e2 st hne => ?_)
  subst e2
  refine ⟨_, _, _, _, _, _, _, rfl, Walks.list (A := X.A.in1) (I.ok.hd hc) _ a hne its.toArray, st, truth_bools hb, fun h' tk hk => ?_⟩
  refine ⟨.bl _, H, I.kept fun b o eo => hk b o (fun hmem => ?_) (Heap.get?_push_of_some _ eo), ?_, q⟩
  · rcases List.mem_cons.mp hmem with e1 | hmem
    · exact absurd (e1 ▸ Heap.lt_size eo) (Nat.lt_irrefl _)
    · cases hmem
  · show Value.bool _ = Value.bool _
    rw [← any_range, hb, List.size_toArray, List.length_map]
theorem cr_all (hc : X.calm = true) : CallR X (.builtin "all") (rAll X.K) := by
  intro pins s σ H vs us Q I r h
  obtain ⟨a, bs, rfl, hs, q⟩ := h
  obtain ⟨its, rv, hl, _⟩ := I.list hs
  rw [Vals.ref1 r]
  have hb := rv.bls
  refine call_all_walk (iter_any hl.isList fun s₂ e2 st hne => ?_)
  subst e2
  refine ⟨_, _, _, _, _, _, _, rfl, Walks.list (A := X.A.in1) (I.ok.hd hc) _ a hne its.toArray, st, truth_bools hb, fun h' tk hk => ?_⟩
  refine ⟨.bl _, H, I.kept fun b o eo => hk b o (fun hmem => ?_) (Heap.get?_push_of_some _ eo), ?_, q⟩
  · rcases List.mem_cons.mp hmem with e1 | hmem
    · exact absurd (e1 ▸ Heap.lt_size eo) (Nat.lt_irrefl _)
    · cases hmem
  · show Value.bool _ = Value.bool _
    rw [← all_range, hb, List.size_toArray, List.length_map]
end

/-! ### == and != of data at any depth: none, bools, ints, texts, lists, tuples -/
mutual
inductive Dp (K : PySem.W.Frag) (H : Hp) : V → PyData → Prop
  | non : Dp K H .non .none
  | bl (b : Bool) : Dp K H (.bl b) (.bool b)
  | int (i : Int) : Dp K H (.int i) (.int i)
  | str (x : Str) : Dp K H (.str x) (.str x)
  | lst {a : Addr} {xs : List V} {ds : List PyData} : SqL K H a xs → DpAll K H xs ds → Dp K H (.ref a) (.list ds)
  | tup {a : Addr} {xs : List V} {ds : List PyData} : SqT K H a xs → DpAll K H xs ds → Dp K H (.ref a) (.tuple ds)
inductive DpAll (K : PySem.W.Frag) (H : Hp) : List V → List PyData → Prop
  | nil : DpAll K H [] []
  | cons {v : V} {vs : List V} {d : PyData} {ds : List PyData} : Dp K H v d → DpAll K H vs ds → DpAll K H (v :: vs) (d :: ds)
end
section
variable {X : Cx} {pins : List (Addr × Obj)} {σ : St} {H : Hp} {s : Shared}
mutual
theorem Dp.reads (I : Inv X pins σ H s) : ∀ (d : PyData) (v : V) (u : Value), Dp X.K H v d → RelV v u → ∃ as, Reads s.heap u d as
  | .none, _, _, h, r => by
    cases h
    cases r
    exact ⟨_, Reads.none⟩
  | .bool b, _, _, h, r => by
    cases h
    cases r
    exact ⟨_, Reads.bool b⟩
  | .int i, _, _, h, r => by
    cases h
    obtain ⟨t, rfl⟩ := r
    exact ⟨_, Reads.int i t⟩
  | .str x, _, _, h, r => by
    cases h
    obtain ⟨t, rfl⟩ := r
    exact ⟨_, Reads.str x t⟩
  | .list ds, _, _, h, r => by
    cases h with
    | lst hs ha =>
      cases r
      obtain ⟨its, rv, ⟨o, n, ho, hc, _, hd⟩, _⟩ := I.list hs
      obtain ⟨as, hr⟩ := Dp.readsAll I ds _ its ha rv
      exact ⟨_, Reads.list ho hc hd hr⟩
  | .tuple ds, _, _, h, r => by
    cases h with
    | tup hs ha =>
      cases r
      obtain ⟨its, rv, ⟨o, ho, hc, n, hd⟩, _⟩ := I.tuple hs
      obtain ⟨as, hr⟩ := Dp.readsAll I ds _ its ha rv
      exact ⟨_, Reads.tuple ho hc hd hr⟩
  | .dict _, _, _, h, _ => by cases h
theorem Dp.readsAll (I : Inv X pins σ H s) : ∀ (ds : List PyData) (vs : List V) (us : List Value), DpAll X.K H vs ds → Vals vs us → ∃ as, ReadsAll s.heap us ds as
  | [], _, _, h, r => by
    cases h
    cases r
    exact ⟨_, ReadsAll.nil⟩
  | d :: ds, _, _, h, r => by
    cases h with
    | cons h1 h2 =>
      cases r with
      | cons r1 r2 =>
        obtain ⟨as, q1⟩ := Dp.reads I d _ _ h1 r1
        obtain ⟨bs, q2⟩ := Dp.readsAll I ds _ _ h2 r2
        exact ⟨_, ReadsAll.cons q1 q2⟩
end
end
section
variable {X : Cx}
end
end L2

namespace L2
open PySem PySem.Spec PyProof.Rows
abbrev CellAt (h : Heap) (c : Addr) (v : Option Value) : Prop := h.IsCell c v
def relS (scope sc : Scope) : Scope :=
  { scope with names := scope.names.map fun (n, k) => if (k == .free && sc.kind == .function && sc.names.lookup n == some .cell) then (n, .cell) else (n, k) }

def cloFrom (cells : List (Str × Addr)) : List (Str × NameKind) → List (Str × Addr) → List (Str × Addr)
  | [], acc => acc
  | (n, k) :: r, acc => if k == .free then cloFrom cells r ((n, (cells.lookup n).getD 0) :: acc) else cloFrom cells r acc

theorem closure_loop (env : Env) (f : Str × NameKind → List (Str × Addr) → Sem (ForInStep (List (Str × Addr))))
    (hf : ∀ n k c, f (n, k) c = if k == .free then (do let a ← cellOf env n; pure (.yield ((n, a) :: c))) else pure (.yield c)) :
    ∀ (names : List (Str × NameKind)) (acc : List (Str × Addr)), (∀ y ∈ names, y.2 = .free → ∃ c, env.cells.lookup y.1 = some c) → forIn names acc f = pure (cloFrom env.cells names acc)
  | [], acc, _ => by rw [List.forIn_nil]; rfl
  | (n, k) :: r, acc, h => by
    rw [List.forIn_cons, hf]
    have ih := fun acc => closure_loop env f hf r acc fun y hy => h y (List.mem_cons_of_mem _ hy)
    unfold cloFrom
    by_cases hk : (k == NameKind.free) = true
    · rw [if_pos hk, if_pos hk]
      obtain ⟨c, hc⟩ := h (n, k) List.mem_cons_self (by simpa using hk)
      have e : cellOf env n = pure c := by unfold cellOf; rw [hc]
      rw [e]
      have e2 : (env.cells.lookup n).getD 0 = c := by rw [hc]; rfl
      rw [e2]
      exact ih _
    · rw [if_neg hk, if_neg hk]
      exact ih _
theorem closure_ok {scope : Scope} {env : Env} (h : ∀ y ∈ scope.names, y.2 = .free → ∃ c, env.cells.lookup y.1 = some c) : closureFor scope env = pure (cloFrom env.cells scope.names []) := by
  simp only [closureFor]
  rw [closure_loop env _ (fun n k c => rfl) scope.names [] h]
  rfl

theorem mem_lookup {α : Type} : ∀ {l : List (Str × α)} {n : Str} {c : α}, (n, c) ∈ l → ∃ c', l.lookup n = some c'
  | (k, v) :: r, n, c, h => by
    rw [List.lookup_cons]
    cases hb : n == k with
    | true => exact ⟨_, rfl⟩
    | false =>
      rcases List.mem_cons.mp h with e | h
      · cases e; simp at hb
      · exact mem_lookup h

theorem cloFrom_mem {cells : List (Str × Addr)} : ∀ {names : List (Str × NameKind)} {acc : List (Str × Addr)} {n : Str} {c : Addr}, (n, c) ∈ cloFrom cells names acc → (n, c) ∈ acc ∨ ((n, .free) ∈ names ∧ c = (cells.lookup n).getD 0)
  | [], _, _, _, h => .inl h
  | (m, k) :: r, acc, n, c, h => by
    unfold cloFrom at h
    split at h
    · rename_i hk
      have hk : k = .free := by simpa using hk
      rcases cloFrom_mem h with h | ⟨h1, h2⟩
      · rcases List.mem_cons.mp h with e | h
        · cases e; exact .inr ⟨hk ▸ List.mem_cons_self, rfl⟩
        · exact .inl h
      · exact .inr ⟨List.mem_cons_of_mem _ h1, h2⟩
    · rcases cloFrom_mem h with h | ⟨h1, h2⟩
      · exact .inl h
      · exact .inr ⟨List.mem_cons_of_mem _ h1, h2⟩
theorem cloFrom_acc {cells : List (Str × Addr)} : ∀ {names : List (Str × NameKind)} {acc : List (Str × Addr)} {p : Str × Addr}, p ∈ acc → p ∈ cloFrom cells names acc
  | [], _, _, h => h
  | (m, k) :: r, acc, p, h => by
    unfold cloFrom
    split
    · exact cloFrom_acc (List.mem_cons_of_mem _ h)
    · exact cloFrom_acc h
theorem cloFrom_has {cells : List (Str × Addr)} : ∀ {names : List (Str × NameKind)} {acc : List (Str × Addr)} {n : Str}, (n, .free) ∈ names → (n, (cells.lookup n).getD 0) ∈ cloFrom cells names acc
  | (m, k) :: r, acc, n, h => by
    unfold cloFrom
    rcases List.mem_cons.mp h with e | h
    · cases e
      exact cloFrom_acc List.mem_cons_self
    · split
      · exact cloFrom_has h
      · exact cloFrom_has h

theorem cells_mem : ∀ {names : List (Str × NameKind)} {h : Heap} {acc : List (Str × Addr)} {x : Str} {c : Addr}, (x, c) ∈ cellsFrom h.objs.size names acc →
    (x, c) ∈ acc ∨ ((x, .cell) ∈ names ∧ h.objs.size ≤ c ∧ CellAt (pushCells h names) c none)
  | [], _, _, _, _, h => .inl h
  | (n, k) :: r, h, acc, x, c, hm => by
    unfold cellsFrom at hm
    unfold pushCells
    split at hm
    · rename_i hk
      rw [if_pos hk]
      have hk : k = .cell := by simpa using hk
      rw [← Heap.size_push h { cls := .type "cell", data := .cell none }] at hm
      rcases cells_mem hm with hm | ⟨h1, h2, h3⟩
      · rcases List.mem_cons.mp hm with e | hm
        · cases e
          exact .inr ⟨hk ▸ List.mem_cons_self, Nat.le_refl _, _, pushCells_keeps r _ _ _ (Heap.get?_push_size _ rfl), rfl⟩
        · exact .inl hm
      · rw [Heap.size_push] at h2
        exact .inr ⟨List.mem_cons_of_mem _ h1, Nat.le_of_succ_le h2, h3⟩
    · rename_i hk
      rw [if_neg hk]
      rcases cells_mem hm with hm | ⟨h1, h2, h3⟩
      · exact .inl hm
      · exact .inr ⟨List.mem_cons_of_mem _ h1, h2, h3⟩
theorem cells_acc : ∀ {names : List (Str × NameKind)} {n : Nat} {acc : List (Str × Addr)} {p : Str × Addr}, p ∈ acc → p ∈ cellsFrom n names acc
  | [], _, _, _, h => h
  | (m, k) :: r, n, acc, p, h => by
    unfold cellsFrom
    split
    · exact cells_acc (List.mem_cons_of_mem _ h)
    · exact cells_acc h
theorem cells_has : ∀ {names : List (Str × NameKind)} {n : Nat} {acc : List (Str × Addr)} {x : Str}, (x, .cell) ∈ names → ∃ c, (x, c) ∈ cellsFrom n names acc
  | (m, k) :: r, n, acc, x, h => by
    unfold cellsFrom
    rcases List.mem_cons.mp h with e | h
    · cases e
      exact ⟨n, cells_acc List.mem_cons_self⟩
    · split
      · exact cells_has h
      · exact cells_has h
theorem cells_inj : ∀ {names : List (Str × NameKind)} {h : Heap} {acc : List (Str × Addr)} {x y : Str} {c : Addr}, (∀ p ∈ acc, p.2 < h.objs.size) → (∀ x y c, (x, c) ∈ acc → (y, c) ∈ acc → x = y) →
    (x, c) ∈ cellsFrom h.objs.size names acc → (y, c) ∈ cellsFrom h.objs.size names acc → x = y
  | [], _, _, _, _, _, _, hi, h1, h2 => hi _ _ _ h1 h2
  | (n, k) :: r, h, acc, x, y, c, hl, hi, h1, h2 => by
    unfold cellsFrom at h1 h2
    split at h1
    · rename_i hk
      rw [if_pos hk] at h2
      rw [← Heap.size_push h { cls := .type "cell", data := .cell none }] at h1 h2
      refine cells_inj (h := h.push _) (fun p hp => ?_) (fun x y c a b => ?_) h1 h2
      · rw [Heap.size_push]
        rcases List.mem_cons.mp hp with rfl | hp
        · exact Nat.lt_succ_self _
        · exact Nat.lt_succ_of_lt (hl p hp)
      · rcases List.mem_cons.mp a with e | a <;> rcases List.mem_cons.mp b with e' | b
        · cases e; cases e'; rfl
        · cases e; exact absurd (hl _ b) (Nat.lt_irrefl _)
        · cases e'; exact absurd (hl _ a) (Nat.lt_irrefl _)
        · exact hi _ _ _ a b
    · rename_i hk
      rw [if_neg hk] at h2
      exact cells_inj hl hi h1 h2

theorem newEnv_comp {M : Model} {A : Around} {E : Value → Shared → Prop} {s : Shared} {scope : Scope} {globals : Addr} {closure : List (Str × Addr)} {qual : Str} {func : Option Addr} {code : Value} {around : Env} {builtins : Addr} {Q : Env → Shared → Prop}
    (h : Q (newEnv scope s.heap.objs.size globals (cellsFrom (s.heap.objs.size + 1) scope.names closure) qual func code (some around) builtins)
      { s with heap := pushCells (s.heap.push { cls := .type "dict", data := .dict #[] }) scope.names }) :
    wpAny M A (newFunctionEnv scope globals closure [] qual func code (some around) builtins) Q E s := by
  simp only [newFunctionEnv, Option.isSome_some, if_true]
  refine wpAny_bind (wpAny_alloc ?_)
  refine wpAny_bind (wpAny_layCells _ (fun n k c => rfl) scope.names closure _ _ ?_)
  rw [show ({ s with heap := s.heap.push { cls := .type "dict", data := .dict #[] } } : Shared).heap.objs.size = s.heap.objs.size + 1 from Heap.size_push ..]
  rw [List.forIn_nil]
  exact wpAny_bind (wpAny_pure (wpAny_pure h))

/-- every name of the written scope, in the scope that runs -/
theorem lookup_relS {sc : Scope} : ∀ {names : List (Str × NameKind)} {x : Str} {k : NameKind},
    (names.map fun (n, k) => if (k == NameKind.free && sc.kind == .function && sc.names.lookup n == some .cell) then (n, NameKind.cell) else (n, k)).lookup x = some k →
    ∃ k', names.lookup x = some k' ∧ (k = k' ∨ (k' = .free ∧ k = .cell))
  | [], _, _, h => by simp at h
  | (n, k₀) :: r, x, k, h => by
    have ih := @lookup_relS sc r x k
    have h' : List.lookup x ((if (k₀ == NameKind.free && sc.kind == .function && sc.names.lookup n == some .cell) = true then (n, NameKind.cell) else (n, k₀)) :: (r.map _)) = some k := h
    cases hx : x == n with
    | true =>
      simp only [List.lookup_cons, hx]
      by_cases hc : (k₀ == NameKind.free && sc.kind == .function && sc.names.lookup n == some .cell) = true
      · rw [if_pos hc] at h'
        simp only [List.lookup_cons, hx] at h'
        cases h'
        simp only [Bool.and_eq_true, beq_iff_eq] at hc
        exact ⟨k₀, rfl, .inr ⟨hc.1.1, rfl⟩⟩
      · rw [if_neg hc] at h'
        simp only [List.lookup_cons, hx] at h'
        cases h'
        exact ⟨_, rfl, .inl rfl⟩
    | false =>
      simp only [List.lookup_cons, hx]
      by_cases hc : (k₀ == NameKind.free && sc.kind == .function && sc.names.lookup n == some .cell) = true
      · rw [if_pos hc] at h'
        simp only [List.lookup_cons, hx] at h'
        exact ih h'
      · rw [if_neg hc] at h'
        simp only [List.lookup_cons, hx] at h'
        exact ih h'
/-- the names of a comprehension's block: its own (with their places in N), or captured -/
structure BlkOk (N : List Str) (sc scope : Scope) (own : List (Str × Nat)) : Prop where
  kind : scope.kind = .function
  uniq : ∀ y ∈ scope.names, scope.names.lookup y.1 = some y.2
  ix : ∀ p ∈ own, N[p.2]? = some p.1
  free : ∀ y ∈ scope.names, y.2 = .free → sc.names.lookup y.1 = some .cell ∨ sc.names.lookup y.1 = some .free
  own : ∀ y ∈ scope.names, y.2 = .local ∨ y.2 = .cell → y.1 ∈ own.map (·.1) ∨ y.1 ∉ N
/-- the slots of the block's own names forgotten -/
def wipe (σ : St) : List Nat → St
  | [] => σ
  | v :: vs => (wipe σ vs).set v none
theorem wipe_length (σ : St) : ∀ vs : List Nat, (wipe σ vs).length = σ.length
  | [] => rfl
  | v :: vs => by unfold wipe; rw [List.length_set, wipe_length σ vs]
theorem wipe_some {σ : St} {i : Nat} {x : V} : ∀ {vs : List Nat}, (wipe σ vs)[i]? = some (some x) → σ[i]? = some (some x) ∧ i ∉ vs
  | [], h => ⟨h, by simp⟩
  | v :: vs, h => by
    unfold wipe at h
    by_cases hi : v = i
    · subst hi
      by_cases hv : v < (wipe σ vs).length
      · rw [List.getElem?_set_self hv] at h; cases h
      · rw [List.getElem?_eq_none (by simpa using hv)] at h; cases h
    · rw [List.getElem?_set_ne hi] at h
      obtain ⟨h1, h2⟩ := wipe_some h
      exact ⟨h1, by simp only [List.mem_cons, not_or]; exact ⟨fun e => hi e.symm, h2⟩⟩

/-- the context of a block that starts at s, its iterator's objects at fp -/
abbrev Cx.blk (X : Cx) (s : Shared) (H : Hp) (scope : Scope) (cenv : Env) (fp : List Addr) : Cx := { X with s_0 := s, H_0 := H, env := cenv, outer := X.stack, ex := fp, fn := fun x => scope.names.lookup x == some .cell, pn := [], xe := fun _ _ => False }
section
variable {X : Cx} {pins : List (Addr × Obj)} {σ : St} {H : Hp} {s : Shared}
theorem block_start {scope : Scope} {own : List (Str × Nat)} {fp : List Addr} (I : Inv X pins σ H s) (ok : BlkOk X.N X.env.scope scope own) (hN : X.N.Nodup) (hfp : ∀ b ∈ fp, FpOk X pins H b ∧ b < s.heap.objs.size) :
    Inv (X.blk s H scope (compEnvC scope (cellsFrom (s.heap.objs.size + 1) scope.names (cloFrom X.env.cells scope.names [])) s.heap.objs.size X.env) fp) [] (wipe σ (own.map (·.2))) H { s with heap := pushCells (s.heap.push { cls := .type "dict", data := .dict #[] }) scope.names } := by
  have hfree : ∀ y ∈ scope.names, y.2 = .free → ∃ c, X.env.cells.lookup y.1 = some c := fun y hy e => by
    rcases ok.free y hy e with k | k
    · exact I.ok.has _ (.inl k)
    · exact I.ok.has _ (.inr k)
  generalize hcenv : compEnvC scope (cellsFrom (s.heap.objs.size + 1) scope.names (cloFrom X.env.cells scope.names [])) s.heap.objs.size X.env = cenv
  have kp : ∀ b o, s.heap.get? b = some o → (pushCells (s.heap.push { cls := .type "dict", data := .dict #[] }) scope.names).get? b = some o := fun b o e => pushCells_keeps _ _ _ _ (Heap.get?_push_of_some _ e)
  have hL : cenv.locals = s.heap.objs.size := by rw [← hcenv]; rfl
  have hcl : cenv.cells = cellsFrom (s.heap.objs.size + 1) scope.names (cloFrom X.env.cells scope.names []) := by rw [← hcenv]; rfl
  have hsc : cenv.scope = relS scope X.env.scope := by rw [← hcenv]; rfl
  rw [← Heap.size_push s.heap { cls := .type "dict", data := .dict #[] }] at hcl
  have cm : ∀ {y c}, (y, c) ∈ cloFrom X.env.cells scope.names [] → X.env.cells.lookup y = some c ∧ c < s.heap.objs.size := fun {y c} hm => by
    rcases cloFrom_mem hm with hm | ⟨h1, rfl⟩
    · cases hm
    · obtain ⟨c, hc⟩ := hfree _ h1 rfl
      rw [hc]
      obtain ⟨w, z⟩ := I.cell _ _ hc
      exact ⟨rfl, z.lt⟩
  have mem : ∀ {y c}, cenv.cells.lookup y = some c → (X.env.cells.lookup y = some c ∧ c < s.heap.objs.size) ∨ (s.heap.objs.size + 1 ≤ c ∧ CellAt (pushCells (s.heap.push { cls := .type "dict", data := .dict #[] }) scope.names) c none) := fun {y c} e => by
    rw [hcl] at e
    rcases cells_mem (PySem.mem_of_lookup e) with hm | ⟨_, h2, h3⟩
    · exact .inl (cm hm)
    · rw [Heap.size_push] at h2; exact .inr ⟨h2, h3⟩
  have look : ∀ {y}, scope.names.lookup y = some .free → ∃ c, cenv.cells.lookup y = some c ∧ X.env.cells.lookup y = some c := fun {y} hl => by
    have hy : (y, NameKind.free) ∈ scope.names := PySem.mem_of_lookup hl
    obtain ⟨c', e'⟩ := mem_lookup (cells_acc (names := scope.names) (n := (s.heap.push { cls := .type "dict", data := .dict #[] }).objs.size) (cloFrom_has (cells := X.env.cells) (acc := []) hy))
    rw [← hcl] at e'
    refine ⟨c', e', ?_⟩
    rw [hcl] at e'
    rcases cells_mem (PySem.mem_of_lookup e') with hm | ⟨h1, _, _⟩
    · exact (cm hm).1
    · have := ok.uniq _ h1
      rw [hl] at this; cases this
  have okB : (X.blk s H scope cenv fp).Ok := by
    refine ⟨I.ok.mod, by show cenv.scope.kind = _; rw [hsc]; exact ok.kind, by show cenv.globals = _; rw [← hcenv]; exact I.ok.glob, by show cenv.builtins = _; rw [← hcenv]; exact I.ok.blt, by show s.heap.objs.size ≤ cenv.locals; rw [hL]; exact Nat.le_refl _,
      fun y z c e1 e2 => ?_, fun y hy => ?_, fun y c z e => ?_, I.ok.hd, I.ok.frames, .inl rfl, fun b hb => ⟨?_, fun y c e z => ?_⟩, I.bs, Nat.le_trans I.ok.bsz I.sz, fun b o e hb => ?_, fun b hb z => ?_, I.stack, I.stkFree⟩
    · have e1 : cenv.cells.lookup y = some c := e1
      have e2 : cenv.cells.lookup z = some c := e2
      rw [hcl] at e1 e2
      refine cells_inj (fun p hp => ?_) (fun y z c a b => I.ok.inj y z c (cm a).1 (cm b).1) (PySem.mem_of_lookup e1) (PySem.mem_of_lookup e2)
      rw [Heap.size_push]
      exact Nat.lt_succ_of_lt (cm (y := p.1) (c := p.2) hp).2
    · show ∃ c, cenv.cells.lookup y = some c
      have key : ∀ k, cenv.kindOf y = some k → (k = .cell ∨ k = .free) → ∃ c, cenv.cells.lookup y = some c := fun k hk hk' => by
        unfold Env.kindOf at hk
        rw [hsc] at hk
        obtain ⟨k', e, r⟩ := lookup_relS hk
        have : k' = .cell ∨ k' = .free := by
          rcases r with rfl | ⟨rfl, _⟩
          · exact hk'
          · exact .inr rfl
        rcases this with rfl | rfl
        · obtain ⟨c, hm⟩ := cells_has (n := (s.heap.push { cls := .type "dict", data := .dict #[] }).objs.size) (acc := cloFrom X.env.cells scope.names []) (PySem.mem_of_lookup e)
          obtain ⟨c', e'⟩ := mem_lookup hm
          exact ⟨c', by rw [hcl]; exact e'⟩
        · obtain ⟨c, h1, _⟩ := look e
          exact ⟨c, h1⟩
      rcases hy with hy | hy
      · exact key _ hy (.inl rfl)
      · exact key _ hy (.inr rfl)
    · have z : (scope.names.lookup y == some NameKind.cell) = true := z
      have z : scope.names.lookup y = some .cell := by simpa using z
      have e : cenv.cells.lookup y = some c := e
      rw [hcl] at e
      rcases cells_mem (PySem.mem_of_lookup e) with hm | ⟨_, h2, _⟩
      · rcases cloFrom_mem hm with hm | ⟨h1, _⟩
        · cases hm
        · have q := ok.uniq _ h1
          rw [z] at q; cases q
      · rw [Heap.size_push] at h2
        exact Nat.le_of_succ_le h2
    · show b ≠ cenv.locals
      rw [hL]; exact Nat.ne_of_lt (hfp b hb).2
    · have e : cenv.cells.lookup y = some c := e
      rcases mem e with ⟨h1, _⟩ | ⟨h1, _⟩
      · exact (hfp b hb).1.2.2.2.2.1 y c h1 z
      · have h2 : s.heap.objs.size + 1 ≤ b := by rw [← z]; exact h1
        exact absurd (Nat.lt_of_lt_of_le (hfp b hb).2 (Nat.le_of_succ_le h2)) (Nat.lt_irrefl _)
    · rcases (hfp b hb).1.2.2.2.1 with z | z
      · exact I.ok.noex b o e z
      · exact absurd (Nat.lt_of_lt_of_le (Heap.lt_size e) (Nat.le_trans I.ok.bsz z)) (Nat.lt_irrefl _)
    · rcases List.mem_cons.mp (I.stkSub b z) with z | z
      · exact (hfp b hb).1.2.1 z
      · exact (hfp b hb).1.2.2.1 z
  refine ⟨okB, rfl, I.bare, Un.kept kp, ⟨fun _ => none, ?_, fun i y av e1 e2 e3 => ?_⟩, fun y c e => ?_, ?_, fun y c e => ?_, fun p hp => ?_, I.hok.kept kp, by rw [wipe_length]; exact I.len⟩
  · show Heap.Ns _ cenv.locals _
    rw [hL]
    exact Heap.Ns.keeps (Heap.Ns.new ..) fun b o e => pushCells_keeps _ _ _ _ e
  · obtain ⟨e2, hne⟩ := wipe_some e2
    have hfr : scope.names.lookup y = some .free ∧ (cenv.kindOf y = some .cell ∨ cenv.kindOf y = some .free) := by
      have key : ∀ k, cenv.scope.names.lookup y = some k → k = .local ∨ k = .cell ∨ k = .free → scope.names.lookup y = some .free ∧ (cenv.kindOf y = some .cell ∨ cenv.kindOf y = some .free) := fun k hk hk' => by
        have hk0 := hk
        rw [hsc] at hk
        obtain ⟨k', e, r⟩ := lookup_relS hk
        have no : ¬ (k' = .local ∨ k' = .cell) := fun hh => by
          rcases ok.own _ (PySem.mem_of_lookup e) hh with e' | e'
          · obtain ⟨p, hp, hpy⟩ := List.mem_map.mp e'
            have e3 := ok.ix p hp
            have : p.1 = y := hpy
            rw [this] at e3
            exact hne (List.mem_map.mpr ⟨p, hp, nodup_ix hN e3 e1⟩)
          · exact e' (List.mem_of_getElem? e1)
        rcases r with rfl | ⟨rfl, rfl⟩
        · rcases hk' with rfl | rfl | rfl
          · exact absurd (.inl rfl) no
          · exact absurd (.inr rfl) no
          · exact ⟨e, .inr hk0⟩
        · exact ⟨e, .inl hk0⟩
      have e3 : Vis cenv.scope y := e3
      rcases e3 with e3 | e3 | e3
      · exact key _ e3 (.inl rfl)
      · exact key _ e3 (.inr (.inl rfl))
      · exact key _ e3 (.inr (.inr rfl))
    obtain ⟨m, hn, hl⟩ := I.loc
    have hvis : Vis X.env.scope y := (ok.free _ (PySem.mem_of_lookup hfr.1) rfl).elim (fun k => .inr (.inl k)) (fun k => .inr (.inr k))
    obtain ⟨w, r, q⟩ := hl i y av e1 e2 hvis
    refine ⟨w, r, .inr ⟨hfr.2, ?_⟩⟩
    obtain ⟨c, h1, h2⟩ := look hfr.1
    rcases q with ⟨k, _⟩ | ⟨_, c', e', z⟩
    · have k : X.env.scope.names.lookup y = some .local := k
      rcases ok.free _ (PySem.mem_of_lookup hfr.1) rfl with k' | k' <;> rw [show X.env.scope.names.lookup y = _ from k'] at k <;> cases k
    · rw [h2] at e'; cases e'
      exact ⟨c, h1, z.keeps kp⟩
  · have e : cenv.cells.lookup y = some c := e
    rcases mem e with ⟨h1, _⟩ | ⟨_, z⟩
    · obtain ⟨w, z⟩ := I.cell y c h1
      exact ⟨w, z.keeps kp⟩
    · exact ⟨_, z⟩
  · show H cenv.locals = none
    rw [hL]; exact I.hok.fresh (Nat.le_refl _)
  · have e : cenv.cells.lookup y = some c := e
    rcases mem e with ⟨h1, _⟩ | ⟨h1, _⟩
    · exact I.freeC y c h1
    · exact I.hok.fresh (Nat.le_of_succ_le h1)
  · exact absurd (show p ∈ ([] : List (Addr × Obj)) ++ [] from hp) (by simp)

/-- an item appended to a tracked list -/
theorem app_ok {E : Value → Shared → Prop} {D : Addr} {xs : List V} {y : V} {v : Value} {Q : Value → Shared → Prop} (I : Inv X pins σ H s) (hD : H D = some (.lst xs)) (hz : xs.length < sizeLine) (r : RelV y v)
    (h : ∀ s', Inv X pins σ (upd H D (.lst (xs ++ [y]))) s' → Q .none s') : wpAny (model X.prog X.w) X.A (call (.builtin "list.append") [.ref D, v]) Q E s := by
  obtain ⟨hz', its, n, ri, e⟩ := I.hok D _ hD
  have hl := ri.length
  refine append_at (hsz := by rw [List.size_toArray]; omega) e fun h' sb ho' => ?_
  refine h { s with heap := h' } (I.write (t' := s.toks) (by rw [hD]; trivial) (.inl rfl) (fun b u hb q => (sb.2 b hb).trans q) ⟨_, ho'⟩ ⟨by rw [List.length_append]; exact hz, its ++ [v], n + 1, ri.append (.cons r .nil), ?_⟩)
  rw [ho']
  simp

/-- a clause's tests -/
def PTs (X : Cx) (ifs : List Expr) (t : TT) : Prop :=
  ∀ (pins : List (Addr × Obj)) (s : Shared) (σ : St) (H : Hp) (Q : Bool → Hp → Prop), Inv X pins σ H s → t σ H Q →
    wpAny (model X.prog X.w) X.A (forIn ifs true fun c r => if r = true then do let ok ← isTrue c X.env (eval c X.env); pure (ForInStep.yield ok) else pure (ForInStep.yield r)) (TP X pins σ Q) X.xe s
def tYes : TT := fun _ H Q => Q true H
theorem pts_nil : PTs X [] tYes := fun _ _ _ H _ I h => wpAny_tests_nil ⟨H, I, h⟩
theorem pts_one {c : Expr} {t : TT} (h : PT X c t) : PTs X [c] t := fun pins s σ H Q I hw => wpAny_tests_one (h pins s σ H Q I hw)
end

theorem thnF {α : Type} {t : Sem α} {Q Q' : α → Shared → Prop} {M : Model} {A : Around} {E : Value → Shared → Prop} {s : Shared} (h : wpAny M A t Q (fun _ _ => False) s) (hQ : ∀ a s, Q a s → Q' a s) : wpAny M A t Q' E s := wpAny_mono h hQ fun _ _ z => False.elim z

/-- the loop of a list comprehension's block, the target of any form (codeAny_compLoop_tests asks a target that no tuple goes to; statement and proof follow it, PyProof/CompMap.lean:41-61, with the step letOwnedTupleGo kept) -/
theorem compLoop_any {prog : Program} {w : World} {A : Around} {R : Result → Shared → Prop} {s : Shared} {elt target iter : Expr} {ifs : List Expr} {scope : Scope} {pos : Pos} {it acc : Value} {env : Env} (I : Nat → Shared → Prop)
    (turn : ∀ n s, I n s → wpAny (model prog w) A (pyNext it) (fun r s₁ => match r with
      | none => R (.ok .next) s₁
      | some v => wpAny (model prog w) A (letOwnedTupleGo target it v) (fun _ s₁' => wpAny (model prog w) A (assign target env v) (fun _ s₂ =>
          wpAny (model prog w) A (forIn ifs true fun c r => if r = true then do let ok ← isTrue c env (eval c env); pure (ForInStep.yield ok) else pure (ForInStep.yield r)) (fun ok s₃ =>
            if ok = true then wpAny (model prog w) A (eval elt env) (fun x s₄ =>
              wpAny (model prog w) A (call (.builtin "list.append") [acc, x]) (fun _ s₅ => ∃ m, m < n ∧ I m s₅) (notedBy (model prog w) A env fun e s' => R (.error e) s') s₄) (notedBy (model prog w) A env fun e s' => R (.error e) s') s₃
            else ∃ m, m < n ∧ I m s₃) (notedBy (model prog w) A env fun e s' => R (.error e) s') s₂) (notedBy (model prog w) A env fun e s' => R (.error e) s') s₁') (notedBy (model prog w) A env fun e s' => R (.error e) s') s₁) (notedBy (model prog w) A env fun e s' => R (.error e) s') s)
    (n : Nat) (h : I n s) :
    codeAny (model prog w) A (.compLoop (.ListComp elt [⟨target, iter, ifs, 0⟩] scope pos) 0 it acc env) R s := by
  refine codeAny_loop rfl I (fun n s hI => ?_) n h
  show wpAny _ A ((compTurn (.ListComp elt [⟨target, iter, ifs, 0⟩] scope pos) 0 it acc env).onRaise (fun x => do noteFrame x env; theTreesLotGoes x)) _ _ s
  refine wpAny_noted ?_
  rw [compTurn_list]
  refine wpAny_bind (wpAny_standAt (wpAny_bind (wpAny_mono (turn n s hI) (fun r s₁ h₁ => ?_) fun _ _ h' => h')))
  cases r with
  | none => exact wpAny_pure h₁
  | some v =>
    refine wpAny_bind (wpAny_mono h₁ (fun _ s₁' h₁' => ?_) fun _ _ h' => h')
    refine wpAny_bind (wpAny_mono h₁' (fun _ s₂ h₂ => wpAny_bind (wpAny_mono h₂ (fun ok s₃ h₃ => ?_) fun _ _ h' => h')) fun _ _ h' => h')
    cases ok with
    | false => exact wpAny_pure ⟨rfl, h₃⟩
    | true =>
      exact wpAny_bind (wpAny_bind (wpAny_mono h₃ (fun x s₄ h₄ => wpAny_bind (wpAny_mono h₄ (fun _ s₅ h₅ => wpAny_pure (wpAny_pure ⟨rfl, h₅⟩)) fun _ _ h' => h')) fun _ _ h' => h'))

section
variable {X : Cx}
/-- [elt for target in iter if ..]: D the new list; W by the turn and a measure, Nx what a turn is to reach -/
def tLc (wi : TI) (g : TG) (tt : TT) (te : TE) (vs : List Nat) : TE := fun σ H Q => wi σ H fun J H1 => ∀ D, H1 D = none → ∃ W : Nat → Nat → Hp → Prop, (∃ m, W 0 m (upd H1 D (.lst []))) ∧ ∀ i m H, W i m H →
  (J.stop i H ∧ Q (.ref D) H) ∨ (J.go i H ∧ ∃ Nx : Hp → Prop, (∀ H', Nx H' → ∃ m', m' < m ∧ W (i + 1) m' H') ∧ ∀ x H', J.yld i H x H' → g x (wipe σ vs) H' fun σ2 H2 => wipe σ2 vs = wipe σ vs ∧ tt σ2 H2 fun b H3 =>
    if b = true then te σ2 H3 fun y H4 => ∃ acc, H4 D = some (.lst acc) ∧ acc.length < sizeLine ∧ Nx (upd H4 D (.lst (acc ++ [y]))) else Nx H3)
theorem lc_core {pins : List (Addr × Obj)} {s : Shared} {σ : St} {H : Hp} {Q : VK} {elt tg iter : Expr} {ifs : List Expr} {scope : Scope} {own : List (Str × Nat)} {pos pos' : Pos} {wi : TI} {g : TG} {tt : TT} {te : TE} {use : Option (Value → Sem Unit)} {Qf : Value → Shared → Prop}
    (hc : X.calm = true) (hN : X.N.Nodup) (I : Inv X pins σ H s) (hi : PI X tg iter wi) (ok : BlkOk X.N X.env.scope scope own)
    (hg : ∀ (s : Shared) (H : Hp) (C : Addr) (cl : List (Str × Addr)) (fp : List Addr), PG (X.blk s H scope (compEnvC scope cl C X.env) fp) tg g) (ht : ∀ (s : Shared) (H : Hp) (C : Addr) (cl : List (Str × Addr)) (fp : List Addr), PTs (X.blk s H scope (compEnvC scope cl C X.env) fp) ifs tt)
    (he : ∀ (s : Shared) (H : Hp) (C : Addr) (cl : List (Str × Addr)) (fp : List Addr), PE (X.blk s H scope (compEnvC scope cl C X.env) fp) elt te) (hs : ∀ x, foldedSetIterable iter X.env x = pure x)
    (h : tLc wi g tt te (own.map (·.2)) σ H Q)
    (hRR : ∀ D C s' m H', Inv X pins σ H' s' → Q (.ref D) H' → s'.heap.Ns C m → FpOk X pins H' C → compPost (model X.prog X.w) X.A X.xe use Qf (.ref D) C (.ok .next) s') :
    wpAny (model X.prog X.w) X.A (comprehension (.ListComp elt [⟨tg, iter, ifs, 0⟩] scope pos) scope X.env pos' (newList []) false (eval iter X.env) use) Qf X.xe s := by
  have hfree : ∀ y ∈ scope.names, y.2 = .free → ∃ c, X.env.cells.lookup y.1 = some c := fun y hy e => by
    rcases ok.free y hy e with k | k
    · exact I.ok.has _ (.inl k)
    · exact I.ok.has _ (.inr k)
  refine wpAny_comprehension_free (use := use) rfl hs (closure_ok hfree) ok.kind (fun y hy e => by rw [ok.uniq y hy, e])
    (thn (hi pins s σ H _ I h) fun xv s1 hx => thn hx fun itv s2 h2 => ?_)
  obtain ⟨it, fp, tn, J, H2, e, I2, T, st2, f2, q⟩ := h2
  subst e
  refine wpAny_newObj_type (newEnv_comp ?_) (by show 0 ≤ sizeLine; decide)
  generalize hD : s2.heap.objs.size = D
  have hDn : H2 D = none := I2.hok.fresh (Nat.le_of_eq hD)
  obtain ⟨W, ⟨m0, w0⟩, turn⟩ := q D hDn
  -- the new list
  generalize hs3 : ({ s2 with heap := s2.heap.push { cls := .type "list", data := .seq ([] : List Value).toArray } } : Shared) = s3
  have I3 : Inv X pins σ (upd H2 D (.lst [])) s3 := by
    rw [← hs3]
    refine I2.laid (t' := s2.toks) (fun b o e => Heap.get?_push_of_some _ e) (Nat.le_of_eq hD) ⟨Nat.zero_le _, [], 0, .nil, ?_⟩
    rw [← hD]
    exact Heap.get?_push_size _ rfl
  have h3 : s3.heap = s2.heap.push { cls := .type "list", data := .seq ([] : List Value).toArray } := by rw [← hs3]
  have sz : ∀ b ∈ fp, b < s2.heap.objs.size := fun b hb => by
    obtain ⟨o, e, _⟩ := T.obj _ _ st2 b hb
    exact Heap.lt_size e
  have f3 : ∀ b ∈ fp, FpOk X pins (upd H2 D (.lst [])) b ∧ b < s3.heap.objs.size := fun b hb => by
    have hlt := sz b hb
    refine ⟨⟨?_, (f2 b hb).2⟩, by rw [h3, Heap.size_push]; exact Nat.lt_succ_of_lt hlt⟩
    rw [upd_ne (by rw [← hD]; exact Nat.ne_of_lt hlt)]
    exact (f2 b hb).1
  have st3 : tn 0 s3.heap := T.keep _ _ _ st2 fun b _ o e => by rw [h3]; exact Heap.get?_push_of_some _ e
  have I4 := block_start I3 ok hN f3
  have pg := hg s3 (upd H2 D (.lst [])) s3.heap.objs.size (cellsFrom (s3.heap.objs.size + 1) scope.names (cloFrom X.env.cells scope.names [])) fp
  have pt := ht s3 (upd H2 D (.lst [])) s3.heap.objs.size (cellsFrom (s3.heap.objs.size + 1) scope.names (cloFrom X.env.cells scope.names [])) fp
  have pe := he s3 (upd H2 D (.lst [])) s3.heap.objs.size (cellsFrom (s3.heap.objs.size + 1) scope.names (cloFrom X.env.cells scope.names [])) fp
  show codeAny _ _ (.compStart (.ListComp elt [⟨tg, iter, ifs, 0⟩] scope pos) 0 (.ref it) (.ref D) (compEnvC scope (cellsFrom (s3.heap.objs.size + 1) scope.names (cloFrom X.env.cells scope.names [])) s3.heap.objs.size X.env)) (compPost (model X.prog X.w) X.A X.xe use Qf (.ref D) s3.heap.objs.size) { s3 with heap := pushCells (s3.heap.push { cls := .type "dict", data := .dict #[] }) scope.names }
  have nfp : ∀ b ∈ fp, (upd H2 D (.lst [])) b = none := fun b hb => (f3 b hb).1.1
  generalize hce : compEnvC scope (cellsFrom (s3.heap.objs.size + 1) scope.names (cloFrom X.env.cells scope.names [])) s3.heap.objs.size X.env = ce at I4 pg pt pe ⊢
  have cL : ce.locals = s3.heap.objs.size := by subst hce; rfl
  generalize hH3 : upd H2 D (.lst []) = H3 at I3 I4 pg pt pe w0 nfp f3
  generalize hs4 : ({ s3 with heap := pushCells (s3.heap.push { cls := .type "dict", data := .dict #[] }) scope.names } : Shared) = s4 at I4 ⊢
  have st4 : tn 0 s4.heap := T.keep _ _ _ st3 fun b _ o e => by rw [← hs4]; exact pushCells_keeps _ _ _ _ (Heap.get?_push_of_some _ e)
  have stat : ∀ {σ' : St} {H' : Hp} {s' : Shared}, Inv (X.blk s3 H3 scope ce fp) [] σ' H' s' → (∀ b ∈ fp, H' b = none) → ∀ b ∈ fp, FpOk (X.blk s3 H3 scope ce fp) [] H' b := fun {σ' H' s'} I' hn b hb =>
    ⟨hn b hb, (I'.ok.exf b hb).1, I'.ok.exfs b hb, .inl hb, fun x c e => (I'.ok.exf b hb).2 x c e, fun p hp => absurd (show p ∈ ([] : List (Addr × Obj)) ++ [] from hp) (by simp)⟩
  have loop : codeAny (model X.prog X.w) X.A (.compLoop (.ListComp elt [⟨tg, iter, ifs, 0⟩] scope pos) 0 (.ref it) (.ref D) ce) (compPost (model X.prog X.w) X.A X.xe use Qf (.ref D) s3.heap.objs.size) s4 := by
    refine compLoop_any (fun n s' => ∃ i H', Inv (X.blk s3 H3 scope ce fp) [] (wipe σ (own.map (·.2))) H' s' ∧ tn i s'.heap ∧ (∀ b ∈ fp, H' b = none) ∧ W i n H') ?_ m0 ⟨0, H3, I4, st4, nfp, w0⟩
    rintro n s5 ⟨i, H5, I5, st5, n5, w5⟩
    rcases turn i n H5 w5 with ⟨stop, qq⟩ | ⟨go, Nx, hNx, step⟩
    · have td := T.done (X.blk s3 H3 scope ce fp) rfl rfl rfl hc i [] s5 _ H5 (fun _ _ => False) I5 (stat I5 n5) st5 stop
      refine thnF td fun r s6 ⟨hr, I6⟩ => ?_
      subst hr
      -- back in the def's context
      have I7 : Inv X pins σ H5 s6 := I3.call' (ch := fp) I6.os I6.base I6.hok I6.bare fun b hb => ⟨(f3 b hb).1.2.2.2.1, (f3 b hb).1.2.1, (f3 b hb).1.2.2.2.2.1, (f3 b hb).1.2.2.2.2.2⟩
      have nC : H5 s3.heap.objs.size = none := by
        have z : H5 ce.locals = none := I6.free
        rw [cL] at z
        exact z
      obtain ⟨m, hn, _⟩ := I6.loc
      have hn : s6.heap.Ns ce.locals m := hn
      rw [cL] at hn
      exact hRR D s3.heap.objs.size s6 m H5 I7 qq hn (I3.fpOk (Nat.le_refl _) nC)
    · have ti := T.item (X.blk s3 H3 scope ce fp) rfl rfl rfl hc i [] s5 _ H5 (fun _ _ => False) I5 (stat I5 n5) st5 go
      refine thnF ti fun r s6 ⟨u, hr, h6⟩ => ?_
      subst hr
      refine thnF h6 fun _ s7 ⟨x, H7, I7, r7, y7, st7, n7⟩ => ?_
      have I7' := I7.pinned (stat I7 n7) (T.obj _ _ st7)
      refine thnF (pg _ s7 _ H7 x u _ I7' r7 (step x H7 y7)) fun _ s8 ⟨σ8, H8, I8, hw8, q8⟩ => ?_
      refine thnF (pt _ s8 σ8 H8 _ I8 q8) fun b s9 ⟨H9, I9, q9⟩ => ?_
      -- the turn's end
      have fin : ∀ {s' : Shared} {H' : Hp}, Inv (X.blk s3 H3 scope ce fp) ([] ++ pinsAt fp s7.heap) σ8 H' s' → Nx H' → ∃ m, m < n ∧ ∃ i H', Inv (X.blk s3 H3 scope ce fp) [] (wipe σ (own.map (·.2))) H' s' ∧ tn i s'.heap ∧ (∀ b ∈ fp, H' b = none) ∧ W i m H' := fun {s' H'} I' nx => by
        obtain ⟨m', hm, w'⟩ := hNx H' nx
        have pin' : ∀ b ∈ fp, ∀ o, s7.heap.get? b = some o → s'.heap.get? b = some o ∧ H' b = none := fun b hb o e =>
          let z := I'.pin (b, o) (List.mem_append_right _ (List.mem_append_right _ (mem_pinsAt hb e)))
          ⟨z.1, z.2.1⟩
        have hl : (wipe σ (own.map (·.2))).length = σ8.length := by rw [← hw8, wipe_length]
        refine ⟨m', hm, i + 1, H', (I'.unpinned (pins := [])).weak hl (fun j v e => ?_), T.keep _ _ _ st7 fun b hb o e => (pin' b hb o e).1, fun b hb => ?_, w'⟩
        · rw [← hw8] at e
          exact (wipe_some e).1
        · obtain ⟨o, e, _⟩ := T.obj _ _ st7 b hb
          exact (pin' b hb o e).2
      cases b with
      | false =>
        simp only [Bool.false_eq_true, if_false] at q9 ⊢
        exact fin I9 q9
      | true =>
        simp only [if_true] at q9 ⊢
        refine thnF (pe _ s9 σ8 H9 _ I9 q9) fun z s10 ⟨yv, H10, I10, r10, acc, hD10, hz10, nx⟩ => ?_
        exact app_ok (X := X.blk s3 H3 scope ce fp) I10 hD10 hz10 r10 fun s11 I11 => fin I11 nx
  exact codeAny_compStart_list loop (T.self X.A 0 _ _ _ st4 loop)
/-- as a value -/
theorem pe_lc {elt tg iter : Expr} {ifs : List Expr} {scope : Scope} {own : List (Str × Nat)} {pos : Pos} {wi : TI} {g : TG} {tt : TT} {te : TE} (hc : X.calm = true) (hN : X.N.Nodup) (hi : PI X tg iter wi) (ok : BlkOk X.N X.env.scope scope own)
    (hg : ∀ (s : Shared) (H : Hp) (C : Addr) (cl : List (Str × Addr)) (fp : List Addr), PG (X.blk s H scope (compEnvC scope cl C X.env) fp) tg g) (ht : ∀ (s : Shared) (H : Hp) (C : Addr) (cl : List (Str × Addr)) (fp : List Addr), PTs (X.blk s H scope (compEnvC scope cl C X.env) fp) ifs tt)
    (he : ∀ (s : Shared) (H : Hp) (C : Addr) (cl : List (Str × Addr)) (fp : List Addr), PE (X.blk s H scope (compEnvC scope cl C X.env) fp) elt te) (hs : ∀ x, foldedSetIterable iter X.env x = pure x := by intro _; rfl) :
    PE X (.ListComp elt [⟨tg, iter, ifs, 0⟩] scope pos) (tLc wi g tt te (own.map (·.2))) := by
  intro pins s σ H Q I h
  rw [eval_ListComp]
  refine lc_core hc hN I hi ok hg ht he hs h fun D C s' m H' I' q hn f => ⟨m, hn, fun h'' sb => ?_⟩
  obtain ⟨f0, f1, f2, f3, f4, f5⟩ := f
  exact ⟨.ref D, H', I'.turned (t' := s'.toks) (fun b o hb e => (sb.2 b hb).trans e) f0 f1 f3 f4 f5, rfl, q⟩
/-- name = [..] on one line, the name a local -/
theorem ps_setLc {i : Nat} {y : Str} {py : Pos} {elt tg iter : Expr} {ifs : List Expr} {scope : Scope} {own : List (Str × Nat)} {pos spos : Pos} {wi : TI} {g : TG} {tt : TT} {te : TE} (hc : X.calm = true) (hN : X.N.Nodup) (hy : X.N[i]? = some y) (hyl : X.env.scope.names.lookup y = some .local)
    (hsw : swapsWith (.ListComp elt [⟨tg, iter, ifs, 0⟩] scope pos) (some (.Name y py)) spos.line X.env = pure true) (hi : PI X tg iter wi) (ok : BlkOk X.N X.env.scope scope own)
    (hg : ∀ (s : Shared) (H : Hp) (C : Addr) (cl : List (Str × Addr)) (fp : List Addr), PG (X.blk s H scope (compEnvC scope cl C X.env) fp) tg g) (ht : ∀ (s : Shared) (H : Hp) (C : Addr) (cl : List (Str × Addr)) (fp : List Addr), PTs (X.blk s H scope (compEnvC scope cl C X.env) fp) ifs tt)
    (he : ∀ (s : Shared) (H : Hp) (C : Addr) (cl : List (Str × Addr)) (fp : List Addr), PE (X.blk s H scope (compEnvC scope cl C X.env) fp) elt te) (hs : ∀ x, foldedSetIterable iter X.env x = pure x := by intro _; rfl) :
    PS X (.Assign [.Name y py] (.ListComp elt [⟨tg, iter, ifs, 0⟩] scope pos) spos) (tAsg (tLc wi g tt te (own.map (·.2))) (gName i)) := by
  intro pins s σ H D I h
  rw [exec_Assign_Name_used _ _ _ _ hsw]
  refine wpAny_bind (wpAny_standAt (wpAny_bind ?_))
  show wpAny _ X.A (do let _ ← comprehension (.ListComp elt [⟨tg, iter, ifs, 0⟩] scope pos) scope X.env (firstIterPos [⟨tg, iter, ifs, 0⟩] pos) (newList []) false (eval iter X.env) (some (assign (.Name y py) X.env))) _ _ s
  have h : tLc wi g tt te (own.map (·.2)) σ H (fun x H1 => gName i x σ H1 D.nx) := h
  refine wpAny_bind (thn (lc_core (Qf := fun _ s' => SP X pins D .next s') hc hN I hi ok hg ht he hs h fun L C s' m H' I' q hn f => ?_) fun _ s' hq => wpAny_pure (wpAny_pure hq))
  show wpAny _ _ (assign (.Name y py) X.env (.ref L)) _ _ _
  refine wpAny_assign_Name (store_ok2 (v := V.ref L) I' hN hy (.inl hyl) rfl (fun s2 I2 ⟨a, sb, ha⟩ => ?_) (.inr hyl))
  obtain ⟨f0, f1, f2, f3, f4, f5⟩ := f
  have haC : C ≠ a := by
    rcases ha with z | z
    · rw [z]; exact f1
    · exact fun e => f4 y a z e.symm
  refine ⟨m, hn.sameBut sb haC, fun h3 sb3 => ?_⟩
  exact ⟨_, H', I2.turned (t' := s2.toks) (fun b o hb e => (sb3.2 b hb).trans e) f0 f1 f3 f4 f5, q⟩
end

/-! ### the forms one uses -/
end L2


namespace L2
open PySem PySem.Spec PyProof.Rows

/-! ### lists of pairs as tables -/
section
variable {κ : Type} [DecidableEq κ]
end


/-! ### a tracked dict, its keys ints and texts or tuples of these -/
/-- raw entries of a dict with tuple keys -/
abbrev KT (H : Hp) : List (List Key × V) → List (List Key × Addr × Value) → Prop := Paired fun p q => p.1 = q.1 ∧ H q.2.1 = some (.tup (p.1.map kV)) ∧ RelV p.2 q.2.2
section
variable {P : Program} {w : World} {H : Hp} {h : Heap} {a : Addr}
end

section
variable {X : Cx} {pins : List (Addr × Obj)} {σ : St} {H : Hp} {s : Shared} {a : Addr} {y v : V} {u r : Value} {o : Option V} {A : Around} {E : Value → Shared → Prop}

end

section
variable {X : Cx} {pins : List (Addr × Obj)} {σ : St} {H : Hp} {s : Shared} {a : Addr} {kvs : List (Key × V)} {k : Key} {u : Value} {A : Around} {E : Value → Shared → Prop}
end


/-! ### readings and rules -/
section
variable {X : Cx} {o i e value : Expr} {pos pos' tpos : Pos} {td ty tv : TE}
end


/-! ### displays -/
section
variable {X : Cx} {pos : Pos}
end

abbrev VV : List (V × V) → List (Value × Value) → Prop := Paired fun p q => RelV p.1 q.1 ∧ RelV p.2 q.2
/-! ### methods -/
/-- a method call o.m(e) of a built-in, with one argument: what must be seen of the text -/
structure M1 (X : Cx) (o : Expr) (m : Str) (apos : Pos) (e : Expr) (cpos : Pos) : Prop where
  base : attributeBase o m X.env (eval o X.env) = eval o X.env
  few : ((backTo cpos (starEach [e] X.env)).all (fun x => !x.1) && (backToKw cpos (keywordEach [] X.env)).all (fun x => x.1.isSome)
    && decide (([e] : List Expr).length + ([] : List Keyword).length + (if ([] : List Keyword).isEmpty then 0 else 1) < 30)) = true
  line : (apos.endLine == cpos.line) = true
  trees : backTo cpos (starEach [e] X.env) = [(false, eval e X.env)]
structure M2 (X : Cx) (o : Expr) (m : Str) (apos : Pos) (e f : Expr) (cpos : Pos) : Prop where
  base : attributeBase o m X.env (eval o X.env) = eval o X.env
  few : ((backTo cpos (starEach [e, f] X.env)).all (fun x => !x.1) && (backToKw cpos (keywordEach [] X.env)).all (fun x => x.1.isSome)
    && decide (([e, f] : List Expr).length + ([] : List Keyword).length + (if ([] : List Keyword).isEmpty then 0 else 1) < 30)) = true
  line : (apos.endLine == cpos.line) = true
  trees : backTo cpos (starEach [e, f] X.env) = [(false, eval e X.env), (false, eval f X.env)]

section
variable {X : Cx} {pins : List (Addr × Obj)} {σ : St} {H : Hp} {s : Shared} {a : Addr} {y d : V} {u r : Value} {o : Option V} {A : Around} {E : Value → Shared → Prop}
end

section
variable {X : Cx} {o e f : Expr} {apos cpos : Pos} {td ty tx : TE}
end

/-! ### dict(d): a copy -/
section
variable {X : Cx} {pins : List (Addr × Obj)} {σ : St} {H : Hp} {s : Shared} {a : Addr} {kvs : List (Key × V)} {A : Around} {E : Value → Shared → Prop}
end


section
variable {X : Cx} {pins : List (Addr × Obj)} {σ : St} {H : Hp} {s : Shared} {a : Addr} {y : V} {u : Value} {A : Around} {E : Value → Shared → Prop}
end
end L2

namespace L2
open PySem PySem.Spec PyProof.Rows

section
variable {prog : Program} {w : World} {A : Around} {E : Value → Shared → Prop}
end

section
variable {X : Cx}
end
end L2

namespace L2
open PySem PySem.Spec PyProof.Rows

section
variable {X : Cx} {pins : List (Addr × Obj)} {σ : St} {H : Hp} {s : Shared} {h' : Heap}
/-- .. and one new object is laid -/
theorem Inv.turnedNew {t' : Nat} {ch : List Addr} {T : Addr} {ob : HO} (I : Inv X pins σ H s) (k : ∀ b o, b ∉ ch → s.heap.get? b = some o → h'.get? b = some o) (hf : ∀ b ∈ ch, FpOk X pins H b) (hT : s.heap.objs.size ≤ T)
    (new : ObjOk X.prog X.w (upd H T ob) h' T ob) : Inv X pins σ (upd H T ob) { s with heap := h', toks := t' } := by
  have hn : H T = none := I.hok.fresh hT
  have nit : ∀ b u, H b = some u → b ∉ ch := fun b u e z => by
    have q := (hf b z).1
    rw [q] at e; cases e
  refine I.step (g' := s.gens) (d' := s.drawn) (ch := ch) (fun b hb => ⟨(hf b hb).2.2.2.1, (hf b hb).2.1, (hf b hb).2.2.2.2.1, (hf b hb).2.2.2.2.2⟩) (fun b o _ _ hc e _ => k b o hc e) (fun b o _ _ hc e _ => ⟨o.slots, k b o hc e⟩)
    (fun b o _ e n => ?_) (fun b o hc e => ⟨o, k b o hc e⟩) (fun b xs e => ?_) (fun b o u e => ?_) (fun b ps e => ⟨#[], ?_⟩) (fun m hm => ?_) (fun b u e => ?_) I.bare
  · rw [upd_ne (Nat.ne_of_lt (Nat.lt_of_lt_of_le (Heap.lt_size e) hT))]; exact n
  · rw [upd_ne (ne_of_none e hn)]; exact e
  · rw [upd_ne (ne_of_none e hn)]; exact e
  · rw [upd_ne (ne_of_none e hn), e]; simp
  · obtain ⟨o, es, ep, ho, r⟩ := hm
    exact ⟨o, es, ep, k _ o (fun z => (hf _ z).2.1 rfl) ho, r⟩
  · by_cases hb : b = T
    · subst hb
      rw [upd_same] at e
      cases e
      exact new
    · rw [upd_ne hb] at e
      refine (I.hok b u e).stay (fun c v hc q => k c v ?_ q) (fun c q => by rw [upd_ne (ne_of_none q hn)]; exact q) fun c xs q => by rw [upd_ne (ne_of_none q hn)]; exact q
      rcases hc with z | z
      · rw [z]; exact nit b u e
      · exact nit c _ z

/-! ### locking a thing while a statement runs -/
theorem Inv.lock {d : Addr} {u : HO} (I : Inv X pins σ H s) (h : H d = some u) (mu : Mut (some u)) : ∃ od, Inv X pins σ (upd H d (.frz od u)) s := by
  have x := I.hok d u h
  have ex : ∃ od, s.heap.get? d = some od := by
    cases u with
    | lst xs => obtain ⟨_, _, _, _, e⟩ := x; exact ⟨_, e⟩
    | dK kvs => obtain ⟨_, _, _, _, o, _, _, e, _⟩ := x; exact ⟨o, e⟩
    | dT kvs => obtain ⟨_, _, _, _, o, _, _, e, _⟩ := x; exact ⟨o, e⟩
    | set S n => obtain ⟨o, _, _, _, e, _⟩ := x; exact ⟨o, e⟩
    | ins C dx fs => obtain ⟨_, _, _, e, _⟩ := x; exact ⟨_, e⟩
    | ext φ => obtain ⟨_, ⟨_, e⟩, _⟩ := x; exact ⟨_, e⟩
    | _ => exact False.elim mu
  obtain ⟨od, e⟩ := ex
  have new : ObjOk X.prog X.w (upd H d (.frz od u)) s.heap d (.frz od u) := by
    refine ⟨e, x.stay (fun b v _ q => q) (fun b q => ?_) fun b xs q => ?_⟩
    · rw [upd_ne (fun z => by rw [z, h] at q; cases q; exact mu)]; exact q
    · rw [upd_ne (fun z => by rw [z, h] at q; cases q; exact mu)]; exact q
  exact ⟨od, I.write (x := d) (e := d) (t' := s.toks) (h' := s.heap) (by rw [h]; exact mu) (.inl rfl) (fun b v _ q => q) ⟨od, e⟩ new⟩
theorem Inv.nofrz {d : Addr} {u : HO} (I : Inv X pins σ H s) (h : H d = some u) (mu : Mut (some u)) : ∀ o' u', X.H_0 d ≠ some (.frz o' u') := fun o' u' e => by
  have q := I.base.frzs d o' u' e
  rw [h] at q
  cases q
  exact mu
theorem Inv.unlock {d : Addr} {od : Obj} {u : HO} (I : Inv X pins σ H s) (h : H d = some (.frz od u)) (hn : ∀ o' u', X.H_0 d ≠ some (.frz o' u')) : Inv X pins σ (upd H d u) s := by
  have neH : ∀ b o, H b = some o → (∀ o' u', o ≠ .frz o' u') → b ≠ d := fun b o e hne z => by
    rw [z, h] at e
    cases e
    exact hne _ _ rfl
  have neN : ∀ b, H b = none → b ≠ d := fun b e z => by rw [z, h] at e; cases e
  refine ⟨I.ok, I.os, I.bare, ⟨I.base.keep, I.base.slot, fun b o e n hx => ?_, I.base.there, fun b xs e => ?_, fun b o x e => ?_, fun b ps e => ?_⟩, I.loc, I.cell, ?_, fun x c e => ?_, fun p hp => ?_, fun b o e => ?_, I.len⟩
  · rw [upd_ne (neN b (I.base.free b o e n hx))]; exact I.base.free b o e n hx
  · have q := I.base.tups b xs e
    rw [upd_ne (neH b _ q (fun _ _ z => nomatch z))]; exact q
  · have q := I.base.frzs b o x e
    rw [upd_ne (fun z => by rw [z] at e; exact hn _ _ e)]; exact q
  · obtain ⟨m, q⟩ := I.base.tbls b ps e
    exact ⟨m, by rw [upd_ne (neH b _ q (fun _ _ z => nomatch z))]; exact q⟩
  · rw [upd_ne (neN _ I.free)]; exact I.free
  · rw [upd_ne (neN c (I.freeC x c e))]; exact I.freeC x c e
  · obtain ⟨e, n, r⟩ := I.pin p hp
    exact ⟨e, by rw [upd_ne (neN _ n)]; exact n, r⟩
  · by_cases hb : b = d
    · rw [hb, upd_same] at e
      cases e
      rw [hb]
      obtain ⟨_, x⟩ := I.hok d _ h
      exact x.stay (fun c v _ q => q) (fun c q => by rw [upd_ne (neH c _ q (fun _ _ z => nomatch z))]; exact q) fun c xs q => by rw [upd_ne (neH c _ q (fun _ _ z => nomatch z))]; exact q
    · rw [upd_ne hb] at e
      exact (I.hok b o e).stay (fun c v _ q => q) (fun c q => by rw [upd_ne (neH c _ q (fun _ _ z => nomatch z))]; exact q) fun c xs q => by rw [upd_ne (neH c _ q (fun _ _ z => nomatch z))]; exact q
end
def tLockE (t : TE) : TE := fun σ H Q => ∃ d u, H d = some u ∧ Mut (some u) ∧ ∀ od, t σ (upd H d (.frz od u)) fun v H' => H' d = some (.frz od u) ∧ Q v (upd H' d u)
section
variable {X : Cx}
theorem pe_lock {e : Expr} {t : TE} (h : PE X e t) : PE X e (tLockE t) := by
  intro pins s σ H Q I hw
  obtain ⟨d, u, hd, mu, hw⟩ := hw
  obtain ⟨od, I1⟩ := I.lock hd mu
  refine thn (h pins s σ _ _ I1 (hw od)) fun v s1 ⟨x, H1, I2, r, e2, q⟩ => ?_
  exact ⟨x, _, I2.unlock e2 (I.nofrz hd mu), r, q⟩

/-! ### one iterator just laid -/
theorem pi_one {tg : Expr} {pins : List (Addr × Obj)} {σ : St} {H : Hp} {s : Shared} {R : It → Hp → Prop} {J : It} {tn : Nat → Heap → Prop} {tk : Nat} (I : Inv X pins σ H s) (o : Obj)
    (T : Turn X.prog X.w X.K tg J [s.heap.objs.size] s.heap.objs.size tn) (st : tn 0 (s.heap.push o)) (q : R J H) : PIE X pins σ tg R (.ref s.heap.objs.size) { s with heap := s.heap.push o, toks := tk } := by
  refine ⟨s.heap.objs.size, [s.heap.objs.size], tn, J, H, rfl, I.kept fun b ob e => Heap.get?_push_of_some _ e, T, st, fun b hb => ?_, q⟩
  have e : b = s.heap.objs.size := by simpa using hb
  subst e
  exact I.fpOk (Nat.le_refl _) (I.hok.fresh (Nat.le_refl _))
end

/-! ### range with a step -/
/-- lo, lo + c, .. (n of them) -/
def Itc (lo c : Int) (n : Nat) : It := ⟨fun i _ => i < n, fun i H x H' => H' = H ∧ x = .int (lo + (i : Nat) * c), fun i _ => n ≤ i⟩
theorem turn_rangeC {P : Program} {w : World} {K : PySem.W.Frag} {tg : Expr} (it : Addr) (lo c : Int) (n : Nat) : Turn P w K tg (Itc lo c n) [it] it (fun i h => IsRangeIter h it (lo + (i : Nat) * c) ((n : Int) - (i : Nat)) c) where
  mem := by simp
  obj := fun i h st b hb => by
    have e : b = it := by simpa using hb
    subst e
    exact ⟨_, st, fun v z => nomatch z⟩
  keep := fun i h h' st k => k it (by simp) _ st
  item := by
    intro X hP hw hK hc i pins s σ H E I hf st hg
    subst hP hw hK
    obtain ⟨f0, f1, f2, f3, f4, f5⟩ := hf it (by simp)
    have W := Walks.range (prog := X.prog) (w := X.w) (I.ok.hd hc) it lo c n
    refine W.item i s _ _ hg st fun v h' tk hv st' kk => ?_
    obtain ⟨t, rfl⟩ := hv
    have I1 : Inv X pins σ H { s with heap := h', toks := tk } := I.turned (fun b o hb e => kk b o (by simpa using hb) e) f0 f1 f3 f4 f5
    exact ⟨_, rfl, go_of (s := { s with heap := h', toks := tk }) (n := "range_iterator") st' rfl rfl (by decide) ⟨.int (lo + (i : Nat) * c), H, I1, ⟨t, rfl⟩, ⟨rfl, rfl⟩, st', fun b hb => (hf b hb).1⟩⟩
  done := by
    intro X hP hw hK hc i pins s σ H E I hf st hg
    subst hP hw hK
    obtain ⟨f0, f1, f2, f3, f4, f5⟩ := hf it (by simp)
    exact wpAny_pyNext_range_end (I.ok.hd hc) st (by have : n ≤ i := hg; omega) fun h' eb => ⟨rfl, I.turned (t' := s.toks) (fun b o hb e => eb b o hb e) f0 f1 f3 f4 f5⟩
  self := fun A i s Q E st h => wpAny_pyIter_rangeiter st h
/-- range(i, j, c): small bounds, n items -/
def RgC (i j c : Int) (n : Nat) : Prop := c ≠ 0 ∧ c.natAbs < 1073741824 ∧ Builtin.Range.small i j c = true ∧ Builtin.Range.rangeSize i j c = n
def iRng3 (ta : TA) : TI := fun σ H R => ta σ H fun vs H1 => ∃ (i j c : Int) (n : Nat), vs = [.int i, .int j, .int c] ∧ RgC i j c n ∧ R (Itc i c n) H1
section
variable {X : Cx} {tg : Expr}
theorem pi_range3 {a b c : Expr} {ta : TA} {p pos : Pos} (hg : Gl X "range") (hm : X.mg "range" = none) (ha : PA X [a, b, c] ta)
    (hs : starEach [a, b, c] X.env = (false, eval a X.env) :: starEach [b, c] X.env := by rfl) (hpl : (backTo pos (starEach [b, c] X.env)).any (·.1) = false := by rfl) :
    PI X tg (.Call (.Name "range" p) [a, b, c] [] pos) (iRng3 ta) := by
  intro pins s σ H R I h
  refine Call_ (ld_blt I hg hm boot_range (PyProof.Rows.callWith_type1 (thn (ha pos pins s σ H _ I h) fun us s1 ⟨vs, H1, I1, r1, q1⟩ => ?_) hs hpl))
  obtain ⟨i, j, k, n, e, ⟨c0, c1, c2, c3⟩, q⟩ := q1
  subst e
  cases r1 with
  | cons r rr =>
    cases rr with
    | cons r' rr =>
      cases rr with
      | cons r'' rr =>
        cases rr
        obtain ⟨t, rfl⟩ := r
        obtain ⟨t', rfl⟩ := r'
        obtain ⟨t'', rfl⟩ := r''
        refine call_range_3 c0 ?_ (.inl (PyProof.noPylong_small c1))
        refine wpAny_pyIter_range (IsRange.new ..) c2 ?_
        have I2 : Inv X pins σ H1 { s1 with heap := s1.heap.push { cls := .type "range", data := .fields #[.int i t, .int j t', .int k t''] } } := I1.kept (t' := s1.toks) fun b o e => Heap.get?_push_of_some _ e
        refine pi_one (tk := s1.toks) I2 _ (turn_rangeC _ i k n) ?_ q
        have e1 : i + ((0 : Nat) : Int) * k = i := by simp
        have e2 : (n : Int) - ((0 : Nat) : Int) = Builtin.Range.rangeSize i j k := by rw [c3]; simp
        show IsRangeIter _ _ (i + ((0 : Nat) : Int) * k) ((n : Int) - ((0 : Nat) : Int)) k
        rw [e1, e2]
        exact Heap.get?_push_size _ rfl
end
/-! ### reversed(list) -/
section
variable {X : Cx} {tg : Expr}
end

/-! ### a str -/
/-! ### a dict's keys: any dict's entries -/
section
variable {prog : Program} {w : World} {A : Around} {E : Value → Shared → Prop} {s : Shared}
end

/-! ### a locked dict -/
section
variable {X : Cx} {pins : List (Addr × Obj)} {σ : St} {H : Hp} {s : Shared} {d : Addr} {o : Obj}
end

section
variable {P : Program} {w : World} {K : PySem.W.Frag} {tg : Expr} {d : Addr} {o : Obj} {es : Array DictEntry} {ep : Nat}
end

/-! ### for k in d, d.keys(), d.values(), d.items() -/
section
variable {X : Cx} {tg e : Expr} {td : TE} {apos cpos : Pos}
end

/-! ### enumerate(list) -/
/-- the list at a as it stands at each turn, each item in a new pair -/
def Ite (K : PySem.W.Frag) (a : Addr) : It :=
  ⟨fun i H => ∃ (xs : List V) (x : V), SqL K H a xs ∧ xs[i]? = some x, fun i H v H' => ∃ T x, v = .ref T ∧ H T = none ∧ H' = upd H T (.tup [.int (i : Nat), x]) ∧ ∀ xs, SqL K H a xs → xs[i]? = some x, fun i H => ∃ xs : List V, SqL K H a xs ∧ xs.length ≤ i⟩
theorem turn_enum {P : Program} {w : World} {K : PySem.W.Frag} {elts : List Expr} {kk : Nat} {tpos : Pos} (a e it : Addr) :
    Turn P w K (.Tuple elts kk tpos) (Ite K a) [e, it] e (fun i h => (∃ old, IsEnum h e it ((i : Nat) : Int) old) ∧ h.IsListIter it a i ∧ e ≠ it) where
  mem := by simp
  obj := fun i h st b hb => by
    obtain ⟨⟨old, he⟩, ⟨o, ho, hc, hd⟩, _⟩ := st
    have e' : b = e ∨ b = it := by simpa using hb
    rcases e' with z | z
    · rw [z]; exact ⟨_, he, fun v q => nomatch q⟩
    · rw [z]; exact ⟨o, ho, fun v q => by rw [hd] at q; cases q⟩
  keep := fun i h h' st k => let ⟨⟨old, he⟩, hi, hne⟩ := st; ⟨⟨old, k e (by simp) _ he⟩, hi.at fun o q => k it (by simp) o q, hne⟩
  item := by
    intro X hP hw hK hc i pins s σ H E I hf st hg
    subst hP hw hK
    obtain ⟨⟨old, he⟩, hit, hne⟩ := st
    obtain ⟨xs, x, hq, hx⟩ := hg
    obtain ⟨its, rv, p, hz⟩ := I.list hq
    obtain ⟨u, hu, ru⟩ := rv.get hx
    have hel : e < s.heap.objs.size := Heap.lt_size he
    have hil : it < s.heap.objs.size := by obtain ⟨_, q, _⟩ := hit; exact Heap.lt_size q
    refine wpAny_pyNext_enum_item he hit p.isList (x := u) (by simpa using hu) hne fun h' ho hit' hT hsz hk => ?_
    refine ⟨_, rfl, wpAny_letOwnedTupleGo_enum (s := { s with heap := h', toks := s.toks + 1 }) ho fun h'' he' sb => ?_⟩
    have hT2 : h''.get? s.heap.objs.size = some { cls := .type "tuple", data := .seq #[.int i s.toks, u] } := (sb.2 _ (Nat.ne_of_gt hel)).trans hT
    have new : ObjOk X.prog X.w (upd H s.heap.objs.size (.tup [.int (i : Nat), x])) h'' s.heap.objs.size (.tup [.int (i : Nat), x]) :=
      ⟨by show 2 ≤ sizeLine; decide, [.int i s.toks, u], .cons ⟨_, rfl⟩ (.cons ru .nil), ⟨_, hT2, rfl, _, rfl⟩⟩
    have I1 : Inv X pins σ (upd H s.heap.objs.size (.tup [.int (i : Nat), x])) { s with heap := h'', toks := s.toks + 1 } :=
      I.turnedNew (ch := [e, it]) (fun b ob hb q => (sb.2 b (fun z => hb (by simp [z]))).trans (hk b ob (fun z => hb (by simp [z])) (fun z => hb (by simp [z])) q)) hf (Nat.le_refl _) new
    refine ⟨.ref s.heap.objs.size, _, I1, rfl, ⟨_, x, rfl, I.hok.fresh (Nat.le_refl _), rfl, fun ys hy => by rw [I.list_inj hy hq]; exact hx⟩, ⟨⟨u, ?_⟩, hit'.at fun o q => (sb.2 it (Ne.symm hne)).trans q, hne⟩, fun b hb => ?_⟩
    · have e1 : ((i + 1 : Nat) : Int) = (i : Int) + 1 := by omega
      rw [e1]; exact he'
    · have hb' : b < s.heap.objs.size := by
        have e' : b = e ∨ b = it := by simpa using hb
        rcases e' with z | z
        · rw [z]; exact hel
        · rw [z]; exact hil
      rw [upd_ne (Nat.ne_of_lt hb')]
      exact (hf b hb).1
  done := by
    intro X hP hw hK hc i pins s σ H E I hf st hg
    subst hP hw hK
    obtain ⟨⟨old, he⟩, hit, hne⟩ := st
    obtain ⟨xs, hq, hx⟩ := hg
    obtain ⟨its, rv, p, hz⟩ := I.list hq
    obtain ⟨f0, f1, f2, f3, f4, f5⟩ := hf it (by simp)
    have hl := rv.length
    exact wpAny_pyNext_enum_end (I.ok.hd hc) he hit p.isList (by simp; omega) fun h' eb => ⟨rfl, I.turned (t' := s.toks) (fun b o hb q => eb b o hb q) f0 f1 f3 f4 f5⟩
  self := fun A i s Q E st h => let ⟨⟨_, he⟩, _⟩ := st; wpAny_pyIter_enum he h
def iEnum (K : PySem.W.Frag) (ta : TA) : TI := fun σ H R => ta σ H fun vs H1 => ∃ a xs, vs = [.ref a] ∧ SqL K H1 a xs ∧ R (Ite K a) H1
theorem pi_enum {X : Cx} {e : Expr} {ta : TA} {p pos tpos : Pos} {elts : List Expr} {kk : Nat} (hg : Gl X "enumerate") (hm : X.mg "enumerate" = none) (ha : PA X [e] ta) (hs : starEach [e] X.env = [(false, eval e X.env)] := by rfl) :
    PI X (.Tuple elts kk tpos) (.Call (.Name "enumerate" p) [e] [] pos) (iEnum X.K ta) := by
  intro pins s σ H R I h
  refine Call_ (ld_blt I hg hm boot_enumerate (PyProof.Rows.callWith_type1 (thn (ha pos pins s σ H _ I h) fun us s1 ⟨vs, H1, I1, r1, q1⟩ => ?_) hs rfl))
  obtain ⟨a, xs, ex, hq, q⟩ := q1
  subst ex
  cases r1 with
  | cons r rr =>
    cases rr
    cases r
    obtain ⟨its, rv, p', hz⟩ := I1.list hq
    refine call_enumerate_list p'.isList fun h' he hit hsz hk => wpAny_pyIter_enum he ?_
    have I2 : Inv X pins σ H1 { s1 with heap := h' } := I1.kept (t' := s1.toks) hk
    refine ⟨s1.heap.objs.size + 1, [s1.heap.objs.size + 1, s1.heap.objs.size], _, _, H1, rfl, I2, turn_enum a (s1.heap.objs.size + 1) s1.heap.objs.size, ⟨⟨.none, he⟩, hit, Nat.succ_ne_self _⟩, fun b hb => ?_, q⟩
    have e' : b = s1.heap.objs.size + 1 ∨ b = s1.heap.objs.size := by simpa using hb
    have hle : s1.heap.objs.size ≤ b := by
      rcases e' with z | z
      · rw [z]; exact Nat.le_add_right _ _
      · rw [z]; exact Nat.le_refl _
    exact I1.fpOk hle (I1.hok.fresh hle)
/-! ### zip(list, list) -/
end L2

section 
namespace Bits
open PySem PyProof.Rows

end Bits
end 

section 
end 



namespace Att
open PySem PySem.W PySem.Calls PyProof.Rows

/-! ### the script -/
/-! ### the attachment: holds_open's last premise (the goal 'hc' behind k_head) from a wpAny of the law's body -/
/-! ### rules over ANY heap (no ledger) from facts about the written part K: the library's own take a ledger (News) for what they write -/
section
variable {prog : Program} {w : World} {A : Around} {E : Value → Shared → Prop} {s : Shared} {K : Frag}

/-! the whole heap as the ledger: makes every rule that writes through a ledger a rule over any heap -/
end
end Att

namespace L2
open PySem PySem.Spec PyProof.Rows

end L2

namespace L2
open PySem PySem.Spec PyProof.Rows

abbrev KOf {K : PySem.W.Frag} {h : Heap} (_ : K.In h) : PySem.W.Frag := K

end L2

/- THE LAST THEOREM (shape; LID, My.* are yours):
   My.Adr: a structure of the addresses that your layer names (classes, functions); My.Txt K t: a structure (Prop) of the equations over K;
   My.txt_mk : {K} {implicit addresses ..} (e1 : nsIn K mainGlobals "law" = some (some (.ref f))) (e2 : K.lookup f = some ⟨oc, od, .func (fnOf "law" "law" params body scope dV kV doc pm an cdv ct), sl⟩) (e3 : codeIn K cdv "law" = true) .. : ∃ t, My.Txt K t

set_option maxRecDepth 100000 in
set_option maxHeartbeats 0 in
theorem PySem.Challenge.cw_LID_holds : PySem.Challenge.rw_LID.Holds := by
  w_on; o_law; k_head; (case hw => w_witness2)
  k_fill
  refine L2.walk_of (l := PySem.Challenge.rw_LID) (n := 63) (k := 40) (x := "script") (CX := fun w => ..) (sp := fun _ => My.sp_law) rfl (by decide) rfl ⟨rfl, by decide, by decide⟩ (fun w h Y => PySem.W.kIn_of Y) ?F ?S ?C
  case F =>
    intro w mg fa h KX G hmg
    have T : ∃ t, My.Txt (L2.KOf KX) t := by
      dsimp only [L2.KOf]                          -- K must stand as «<heap const> w.params» for k_is
      refine' My.txt_mk ?e1 ?e2 ?e3 ..
      (case e1 => PySem.W.k_is)                    -- in the order: a name -> its address -> its object -> its parts
      (case e2 => PySem.W.k_is)
      ..
    obtain ⟨t, T⟩ := T
    have e0 := hmg.symm.trans (PySem.W.mg_of KX G T.law)
    cases e0                                       -- fa is the law's own address
    exact ⟨_, fun s u => .of_eq rfl, fun base kb nb => My.law_fn T kb nb⟩     -- if «.of_eq rfl» comes too early: refine' ⟨_, ?b, fun base kb nb => My.law_fn T kb nb⟩; exact fun s u => .of_eq rfl
  case S => exact fun w H a ns hl hO hS => ..
  case C => exact ..
(the tactic k_is has no namespace: write k_is) -/

/-! SHORT WORDS over the layer: a def of the text, its body, what a loop and a test want. -/
namespace L2
open PySem PySem.Spec PyProof.Rows

/-! ### the text by places -/
/-- the j-th statement of a class's body -/
def inClass (s : Stmt) (j : Nat) : Stmt := match s with
  | .ClassDef _ _ _ body _ _ _ _ _ _ _ => body.getD j (.Pass ⟨0, 0, 0, 0⟩)
  | _ => .Pass ⟨0, 0, 0, 0⟩
def defArgs (s : Stmt) : Arguments := match s with
  | .FunctionDef _ a _ _ _ _ _ _ _ _ => a
  | _ => { posonlyargs := [], args := [], vararg := none, kwonlyargs := [], kw_defaults := [], kwarg := none, defaults := [] }
def defBody (s : Stmt) : List Stmt := match s with
  | .FunctionDef _ _ b _ _ _ _ _ _ _ => b
  | _ => []
def defScope (s : Stmt) : Scope := match s with
  | .FunctionDef _ _ _ _ _ _ sc _ _ _ => sc
  | _ => { kind := .function, names := [], isGenerator := false, isCoroutine := false }

/-! ### no exception leaves a def -/
abbrev CX0 : CXT := fun _ _ _ _ _ _ => False
abbrev E0 : XK := fun _ _ _ => False
theorem pass0 {X : Cx} : Passes CX0 X E0 := fun _ _ _ _ _ _ _ h => h.elim

/-! ### a def (or method) of the text as it stands behind the top -/
structure Fun (K : PySem.W.Frag) (x qual : Str) (st : Stmt) (f : Addr) (fd : FuncData) : Prop where
  ex : ∃ (oc : Value) (od : Option Addr) (kV doc pm : Value) (an : Option Addr) (cdv ct : Value) (osl : Array (Option Value)),
    fd = PySem.W.fnOf x qual (defArgs st) (defBody st) (defScope st) .none kV doc pm an cdv ct ∧ K.lookup f = some ⟨oc, od, .func fd, osl⟩ ∧ PySem.W.codeIn K cdv qual = true
  kp : PySem.W.keepIn K (.ref f) = true
section
variable {P : Program} {w : World} {K : PySem.W.Frag} {mg : Str → Option Value} {base : Heap}
/-- THE RULE for a def: its body as a term of rules, and the reading of that term -/
theorem Fun.ok {x qual : Str} {st : Stmt} {f : Addr} {fd : FuncData} {N ps : List Str} {k : Nat} {sp : Sp} (F : Fun K x qual st f fd) (S : FnScope N ps (defScope st)) (len : ∀ vs H Q E, sp vs H Q E → vs.length = ps.length)
    (hbody : ∀ (cdv : Value) (A : Around) (outer : List Env) (s : Shared) (H : Hp) (vs : List V) (Q : VK) (E : XK), Room k (A.deeper (envOfC qual (defScope st) s.heap.objs.size f cdv)) → sp vs H Q E →
      ∃ t, PSs (cxOf CX0 P w K mg base N qual (defScope st) f cdv A outer s H E).nox (defBody st) t ∧ t { nx := fun _ H' => Q .non H', rt := Q } (start N vs) H) : FnOk P w K mg base CX0 (k + 1) f fd ps sp := by
  obtain ⟨oc, od, kV, doc, pm, an, cdv, ct, osl, rfl, lk, hcd⟩ := F.ex
  refine fn_of lk hcd S len fun A outer s H vs Q E hr hsp => ?_
  obtain ⟨t, h, q⟩ := hbody cdv A outer s H vs Q E hr hsp
  exact ⟨t, h.nox, q⟩
/-- how its arguments bind (no defaults): h is «fun _ _ _ _ _ _ us hl => match us, hl with | [_, _], _ => rfl», one _ a parameter -/
theorem Fun.binds {x qual : Str} {st : Stmt} {f : Addr} {fd : FuncData} {ps : List Str} (F : Fun K x qual st f fd)
    (h : ∀ (kV doc pm : Value) (an : Option Addr) (cdv ct : Value) (us : List Value), us.length = ps.length → bindArgs (PySem.W.fnOf x qual (defArgs st) (defBody st) (defScope st) .none kV doc pm an cdv ct) ⟨us, []⟩ = pure (ps.zip us)) : Binds K fd ps [] := by
  obtain ⟨oc, od, kV, doc, pm, an, cdv, ct, osl, rfl, lk, hcd⟩ := F.ex
  exact .all (h kV doc pm an cdv ct)
theorem fun_mk {x qual : Str} {st : Stmt} {f : Addr} {oc : Value} {od an : Option Addr} {osl : Array (Option Value)} {kV doc pm cdv ct : Value} (l : K.lookup f = some ⟨oc, od, .func (PySem.W.fnOf x qual (defArgs st) (defBody st) (defScope st) .none kV doc pm an cdv ct), osl⟩)
    (c : PySem.W.codeIn K cdv qual = true) (k : PySem.W.keepIn K (.ref f) = true) : Fun K x qual st f (PySem.W.fnOf x qual (defArgs st) (defBody st) (defScope st) .none kV doc pm an cdv ct) := ⟨⟨oc, od, kV, doc, pm, an, cdv, ct, osl, rfl, l, c⟩, k⟩
end
/-! ### expressions in short: the name that stands in the i-th slot -/
section
variable {X : Cx}
theorem pv (i : Nat) {x : Str} {pos : Pos} (hN : X.N[i]? = some x := by rfl) (hv : Vis X.env.scope x := by first | exact Or.inl rfl | exact Or.inr (Or.inl rfl) | exact Or.inr (Or.inr rfl)) (hd : (x == ("__debug__" : Str)) = false := by decide)
    (hcd : (x == ("__classdict__" : Str)) = false := by decide) : PE X (.Name x pos) (tVar i) := pe_var hN hv hd hcd
end

/-! ### tests -/
theorem iteF {A B : Prop} (h : B) : if false = true then A else B := by
  rw [if_neg Bool.false_ne_true]
  exact h
theorem iteT {A B : Prop} (h : A) : if true = true then A else B := by
  rw [if_pos rfl]
  exact h
theorem ite2 {c A B : Prop} [Decidable c] (h1 : c → A) (h2 : ¬ c → B) : if c then A else B := by
  by_cases h : c
  · rw [if_pos h]
    exact h1 h
  · rw [if_neg h]
    exact h2 h
/-! ### heaps -/
/-- all that was tracked is as it was -/
def Same (H H' : Hp) : Prop := ∀ b o, H b = some o → H' b = some o
theorem Same.refl (H : Hp) : Same H H := fun _ _ h => h
theorem Same.trans {H H1 H2 : Hp} (a : Same H H1) (b : Same H1 H2) : Same H H2 := fun c o h => b c o (a c o h)
theorem Same.free {H H' : Hp} (e : Same H H') {l : Addr} (h : H' l = Option.none) : H l = Option.none := by
  cases q : H l with
  | none => rfl
  | some o =>
    rw [e l o q] at h
    cases h
theorem Same.seq {K : PySem.W.Frag} {H H' : Hp} {a : Addr} {xs : List V} (e : Same H H') (h : SqL K H a xs) : SqL K H' a xs := by
  rcases h with (h | ⟨o, h⟩) | h
  · exact .inl (.inl (e _ _ h))
  · exact .inl (.inr ⟨o, e _ _ h⟩)
  · exact .inr h

/-! ### a dict's pairs: keys that differ -/
section
variable {κ : Type} [DecidableEq κ]
end
/-! ### lists -/
theorem at_of {xs : List V} {z : Int} {j : Nat} {v : V} (e : z = (j : Int)) (h : xs[j]? = some v) : atI xs z = some v := by
  rw [e]
  exact atI_nat h
/-- a new instance and its __init__ leave all that was tracked as it was -/
theorem Same.made {H H1 : Hp} {x dx C : Addr} (nx : H x = Option.none) (nd : H dx = Option.none) (k : ∀ b o, (upd (upd H dx (.own x)) x (.ins C dx [])) b = some o → b ≠ x → H1 b = some o) : Same H H1 := fun b o e =>
  k b o (by rw [upd_ne (ne_of_none e nx), upd_ne (ne_of_none e nd)]; exact e) (ne_of_none e nx)
end L2

section
set_option maxHeartbeats 2000000
namespace L2
open PySem PySem.Spec PyProof.Rows
open PySem.W (WData Codec OpenSpec Well WellAll ReadsW ReadsAllW)
/-! ### an answer as data -/
mutual
/-- x stands for the datum d, lists and tuples all the way -/
inductive Dw (K : PySem.W.Frag) (H : Hp) : V → WData → Prop
  | non : Dw K H .non .none
  | bl (b : Bool) : Dw K H (.bl b) (.bool b)
  | int (i : Int) : Dw K H (.int i) (.int i)
  | str (x : Str) : Dw K H (.str x) (.str x)
  | byt (b : Array UInt8) : Dw K H (.byt b) (.bytes b.toList)
  | lst {a : Addr} {xs : List V} {ds : List WData} : SqL K H a xs → DwAll K H xs ds → Dw K H (.ref a) (.list ds)
  | tup {a : Addr} {xs : List V} {ds : List WData} : SqT K H a xs → DwAll K H xs ds → Dw K H (.ref a) (.tuple ds)
inductive DwAll (K : PySem.W.Frag) (H : Hp) : List V → List WData → Prop
  | nil : DwAll K H [] []
  | cons {v : V} {vs : List V} {d : WData} {ds : List WData} : Dw K H v d → DwAll K H vs ds → DwAll K H (v :: vs) (d :: ds)
end
theorem dw_ints {K : PySem.W.Frag} {H : Hp} : ∀ ns : List Int, DwAll K H (ns.map V.int) (ns.map WData.int)
  | [] => .nil
  | n :: r => .cons (.int n) (dw_ints r)
theorem ints_dw {K : PySem.W.Frag} {H : Hp} : ∀ (ns : List Int) (xs : List V), DwAll K H xs (ns.map WData.int) → xs = ns.map V.int
  | [], xs, h => by
    cases h
    rfl
  | n :: r, xs, h => by
    cases h with
    | cons h1 h2 =>
      cases h1
      rw [ints_dw r _ h2] <;> rfl
section
variable {P : Program} {w : World} {K : PySem.W.Frag} {H : Hp} {h : Heap} {R : PySem.W.WRecords} {cl : Str → Option Addr}
theorem sqL_at {a : Addr} {xs : List V} (hok : HOk P w H h) (KX : K.In h) (q : SqL K H a xs) : ∃ (its : List Value) (o : Obj) (n : Nat), Vals xs its ∧ h.get? a = some o ∧ o.cls = .type "list" ∧ o.data = .seq its.toArray n := by
  rcases q with q | ⟨o, its, n, e, hc, _, hd, _, hv⟩
  · obtain ⟨_, its, n, hv, e⟩ := (show ObjOk P w H h a (.lst xs) from q.ok hok)
    exact ⟨its, _, n, hv, e, rfl, rfl⟩
  · exact ⟨its.toList, o, n, hv, KX _ _ e, hc, by simp [hd]⟩
theorem sqT_at {a : Addr} {xs : List V} (hok : HOk P w H h) (KX : K.In h) (q : SqT K H a xs) : ∃ (its : List Value) (o : Obj) (n : Nat), Vals xs its ∧ h.get? a = some o ∧ o.cls = .type "tuple" ∧ o.data = .seq its.toArray n := by
  rcases q with q | ⟨o, its, n, e, hc, hd, _, hv⟩
  · obtain ⟨_, its, hv, o, e, hc, n, hd⟩ := (show ObjOk P w H h a (.tup xs) from q.ok hok)
    exact ⟨its, o, n, hv, e, hc, hd⟩
  · exact ⟨its.toList, o, n, hv, KX _ _ e, hc, by simp [hd]⟩
mutual
theorem Dw.reads (hok : HOk P w H h) (KX : K.In h) : ∀ (d : WData) (v : V) (u : Value), Dw K H v d → RelV v u → ∃ as, ReadsW R cl h u d as
  | .none, _, _, x, r => by
    cases x
    cases r
    exact ⟨_, ReadsW.none⟩
  | .bool b, _, _, x, r => by
    cases x
    cases r
    exact ⟨_, ReadsW.bool b⟩
  | .int i, _, _, x, r => by
    cases x
    obtain ⟨t, rfl⟩ := r
    exact ⟨_, ReadsW.int i t⟩
  | .str s, _, _, x, r => by
    cases x
    obtain ⟨t, rfl⟩ := r
    exact ⟨_, ReadsW.str s t⟩
  | .bytes b, _, _, x, r => by
    cases x
    obtain ⟨t, rfl⟩ := r
    exact ⟨_, ReadsW.bytes _ t⟩
  | .list ds, _, _, x, r => by
    cases x with
    | lst hs ha =>
      cases r
      obtain ⟨its, o, n, rv, ho, hc, hd⟩ := sqL_at hok KX hs
      obtain ⟨as, hr⟩ := Dw.readsAll hok KX ds _ its ha rv
      exact ⟨_, ReadsW.list ho hc hd hr⟩
  | .tuple ds, _, _, x, r => by
    cases x with
    | tup hs ha =>
      cases r
      obtain ⟨its, o, n, rv, ho, hc, hd⟩ := sqT_at hok KX hs
      obtain ⟨as, hr⟩ := Dw.readsAll hok KX ds _ its ha rv
      exact ⟨_, ReadsW.tuple ho hc hd hr⟩
  | .float _, _, _, x, _ => by cases x
  | .dict _, _, _, x, _ => by cases x
  | .bytearray _, _, _, x, _ => by cases x
  | .set _, _, _, x, _ => by cases x
  | .frozenset _, _, _, x, _ => by cases x
  | .obj _ _, _, _, x, _ => by cases x
theorem Dw.readsAll (hok : HOk P w H h) (KX : K.In h) : ∀ (ds : List WData) (vs : List V) (us : List Value), DwAll K H vs ds → Vals vs us → ∃ as, ReadsAllW R cl h us ds as
  | [], _, _, x, r => by
    cases x
    cases r
    exact ⟨_, ReadsAllW.nil⟩
  | d :: ds, _, _, x, r => by
    cases x with
    | cons h1 h2 =>
      cases r with
      | cons r1 r2 =>
        obtain ⟨as, q1⟩ := Dw.reads hok KX d _ _ h1 r1
        obtain ⟨bs, q2⟩ := Dw.readsAll hok KX ds _ _ h2 r2
        exact ⟨_, ReadsAllW.cons q1 q2⟩
end
end
/-! ### the arguments -/
mutual
/-- data that a codec tells -/
def plW : WData → Bool
  | .none => true
  | .bool _ => true
  | .int _ => true
  | .str _ => true
  | .bytes _ => true
  | .list xs => plWs xs
  | .tuple xs => plWs xs
  | _ => false
def plWs : List WData → Bool
  | [] => true
  | x :: r => plW x && plWs r
end
theorem plWs_map {α : Type} {f : α → WData} (h : ∀ a, plW (f a) = true) : ∀ l : List α, plWs (l.map f) = true
  | [] => rfl
  | x :: r => by
    show (plW (f x) && plWs (r.map f)) = true
    rw [h x, plWs_map h r] <;> rfl
theorem pl_enc : ∀ (c : Codec) (a : c.denote), plW (c.enc a) = true
  | .unit, _ => rfl
  | .bool, _ => rfl
  | .int _ _, _ => rfl
  | .nat _ _, _ => rfl
  | .u8, _ => rfl
  | .bytes _ _, _ => rfl
  | .text _ _ _ _, _ => rfl
  | .list _ _ c, a => plWs_map (fun x => pl_enc c x) a
  | .pair c d, a => by
    show (plW (c.enc a.1) && (plW (d.enc a.2) && true)) = true
    rw [pl_enc c a.1, pl_enc d a.2] <;> rfl
  | .triple c d e, a => by
    show (plW (c.enc a.1) && (plW (d.enc a.2.1) && (plW (e.enc a.2.2) && true))) = true
    rw [pl_enc c a.1, pl_enc d a.2.1, pl_enc e a.2.2] <;> rfl
  | .option c, none => rfl
  | .option c, some x => pl_enc c x
theorem pl_encAll : ∀ (cs : List Codec) (a : Codec.denoteAll cs), plWs (Codec.encAll cs a) = true
  | [], _ => rfl
  | c :: cs, a => by
    show (plW (c.enc a.1) && plWs (Codec.encAll cs a.2)) = true
    rw [pl_enc c a.1, pl_encAll cs a.2] <;> rfl
theorem weight_mem : ∀ {xs : List WData} {d : WData}, d ∈ xs → d.weight ≤ WData.weightAll xs
  | [], d, h => absurd h (by simp)
  | x :: r, d, h => by
    show d.weight ≤ x.weight + 1 + WData.weightAll r
    rcases List.mem_cons.mp h with e | m
    · rw [e]
      omega
    · have z := weight_mem m
      omega
def toV : Value → V
  | .none => .non
  | .bool b => .bl b
  | .int i _ => .int i
  | .str x _ => .str x
  | .bytes b _ => .byt b
  | .ref a => .ref a
  | _ => .non
/-- a value of the arguments, its objects among A -/
def OkU (A : List Addr) : Value → Prop
  | .none => True
  | .bool _ => True
  | .int _ _ => True
  | .str _ _ => True
  | .bytes _ _ => True
  | .ref a => a ∈ A
  | _ => False
theorem OkU.mono {A B : List Addr} (h : ∀ a ∈ A, a ∈ B) : ∀ {u : Value}, OkU A u → OkU B u := fun {u} x => by
  cases u with
  | ref a => exact h a x
  | none => trivial
  | bool b => trivial
  | int i t => trivial
  | str s t => trivial
  | bytes b t => trivial
  | _ => exact False.elim x
theorem relV_toV {A : List Addr} {u : Value} (x : OkU A u) : RelV (toV u) u := by
  cases u with
  | ref a => rfl
  | none => rfl
  | bool b => rfl
  | int i t => exact ⟨t, rfl⟩
  | str s t => exact ⟨t, rfl⟩
  | bytes b t => exact ⟨t, rfl⟩
  | _ => exact False.elim x
theorem vals_toV {A : List Addr} : ∀ {vs : List Value}, (∀ u ∈ vs, OkU A u) → Vals (vs.map toV) vs
  | [], _ => .nil
  | u :: r, h => .cons (relV_toV (h u (List.mem_cons_self ..))) (vals_toV fun x hx => h x (List.mem_cons_of_mem _ hx))
/-- an object of the arguments -/
def ArgOb (h : Heap) (A : List Addr) (a : Addr) : Prop := ∃ vs : List Value, vs.length ≤ sizeLine ∧ (∀ u ∈ vs, OkU A u) ∧
  (h.get? a = some { cls := .type "list", data := .seq vs.toArray } ∨ h.get? a = some { cls := .type "tuple", data := .seq vs.toArray })
theorem ArgOb.mono {h : Heap} {A B : List Addr} {a : Addr} (k : ∀ a ∈ A, a ∈ B) (x : ArgOb h A a) : ArgOb h B a := by
  obtain ⟨vs, h1, h2, h3⟩ := x
  exact ⟨vs, h1, fun u hu => (h2 u hu).mono k, h3⟩
theorem wellAll_len {P : Params} {h : Heap} : ∀ {vs : List Value} {ds : List WData}, WellAll P h vs ds → vs.length = ds.length
  | _, _, .nil => rfl
  | _, _, .cons _ b => by
    show _ + 1 = _ + 1
    rw [wellAll_len b]
theorem well_list {P : Params} {h : Heap} {v : Value} {ds : List WData} (x : Well P h v (.list ds)) : ∃ (a : Addr) (vs : List Value), v = .ref a ∧ h.get? a = some { cls := .type "list", data := .seq vs.toArray } ∧ WellAll P h vs ds := by
  cases x with
  | list ho hall => exact ⟨_, _, rfl, ho, hall⟩
theorem well_tuple {P : Params} {h : Heap} {v : Value} {ds : List WData} (x : Well P h v (.tuple ds)) : ∃ (a : Addr) (vs : List Value), v = .ref a ∧ h.get? a = some { cls := .type "tuple", data := .seq vs.toArray } ∧ WellAll P h vs ds := by
  cases x with
  | tuple ho hall => exact ⟨_, _, rfl, ho, hall⟩
theorem well_cons {P : Params} {h : Heap} {us : List Value} {d : WData} {ds : List WData} (x : WellAll P h us (d :: ds)) : ∃ (v : Value) (vs : List Value), us = v :: vs ∧ Well P h v d ∧ WellAll P h vs ds := by
  cases x with
  | cons a b => exact ⟨_, _, rfl, a, b⟩
theorem line_of {n : Nat} (h : n ≤ 1048576) : n ≤ sizeLine := Nat.le_trans h (by decide)
section
variable {P : Params} {h : Heap}
mutual
theorem area_one : ∀ (d : WData) (v : Value), Well P h v d → plW d = true → d.weight ≤ 1048576 → ∃ A : List Addr, OkU A v ∧ ∀ a ∈ A, ArgOb h A a
  | .none, _, x, _, _ => by
    cases x
    exact ⟨[], trivial, fun a m => absurd m (by simp)⟩
  | .bool b, _, x, _, _ => by
    cases x
    exact ⟨[], trivial, fun a m => absurd m (by simp)⟩
  | .int i, _, x, _, _ => by
    cases x
    exact ⟨[], trivial, fun a m => absurd m (by simp)⟩
  | .str s, _, x, _, _ => by
    cases x
    exact ⟨[], trivial, fun a m => absurd m (by simp)⟩
  | .bytes b, _, x, _, _ => by
    cases x
    exact ⟨[], trivial, fun a m => absurd m (by simp)⟩
  | .list ds, _, x, p, z => by
    obtain ⟨a, vs, rfl, ho, hall⟩ := well_list x
    have z2 : WData.weightAll ds ≤ 1048576 := z
    obtain ⟨A, h1, h2⟩ := area_all ds _ hall p fun d hd => Nat.le_trans (weight_mem hd) z2
    have k : ∀ b ∈ A, b ∈ a :: A := fun b hb => List.mem_cons_of_mem _ hb
    refine ⟨a :: A, List.mem_cons_self .., fun b hb => ?_⟩
    rcases List.mem_cons.mp hb with e | m
    · rw [e]
      exact ⟨vs, line_of (by rw [wellAll_len hall]; exact Nat.le_trans (PySem.W.length_le_weightAllW ds) z2), fun u hu => (h1 u hu).mono k, .inl ho⟩
    · exact (h2 b m).mono k
  | .tuple ds, _, x, p, z => by
    obtain ⟨a, vs, rfl, ho, hall⟩ := well_tuple x
    have z2 : WData.weightAll ds ≤ 1048576 := z
    obtain ⟨A, h1, h2⟩ := area_all ds _ hall p fun d hd => Nat.le_trans (weight_mem hd) z2
    have k : ∀ b ∈ A, b ∈ a :: A := fun b hb => List.mem_cons_of_mem _ hb
    refine ⟨a :: A, List.mem_cons_self .., fun b hb => ?_⟩
    rcases List.mem_cons.mp hb with e | m
    · rw [e]
      exact ⟨vs, line_of (by rw [wellAll_len hall]; exact Nat.le_trans (PySem.W.length_le_weightAllW ds) z2), fun u hu => (h1 u hu).mono k, .inr ho⟩
    · exact (h2 b m).mono k
  | .float _, _, _, p, _ => Bool.noConfusion (show false = true from p)
  | .dict _, _, _, p, _ => Bool.noConfusion (show false = true from p)
  | .bytearray _, _, _, p, _ => Bool.noConfusion (show false = true from p)
  | .set _, _, _, p, _ => Bool.noConfusion (show false = true from p)
  | .frozenset _, _, _, p, _ => Bool.noConfusion (show false = true from p)
  | .obj _ _, _, _, p, _ => Bool.noConfusion (show false = true from p)
theorem area_all : ∀ (ds : List WData) (vs : List Value), WellAll P h vs ds → plWs ds = true → (∀ d ∈ ds, d.weight ≤ 1048576) → ∃ A : List Addr, (∀ u ∈ vs, OkU A u) ∧ ∀ a ∈ A, ArgOb h A a
  | [], _, x, _, _ => by
    cases x
    exact ⟨[], fun u m => absurd m (by simp), fun a m => absurd m (by simp)⟩
  | d :: ds, _, x, p, z => by
    obtain ⟨v, vs, rfl, x1, x2⟩ := well_cons x
    have q : plW d = true ∧ plWs ds = true := Bool.and_eq_true_iff.mp p
    obtain ⟨A, a1, a2⟩ := area_one d v x1 q.1 (z d (List.mem_cons_self ..))
    obtain ⟨B, b1, b2⟩ := area_all ds vs x2 q.2 fun e he => z e (List.mem_cons_of_mem _ he)
    have kA : ∀ b ∈ A, b ∈ A ++ B := fun b hb => List.mem_append.mpr (.inl hb)
    have kB : ∀ b ∈ B, b ∈ A ++ B := fun b hb => List.mem_append.mpr (.inr hb)
    refine ⟨A ++ B, fun u hu => ?_, fun b hb => ?_⟩
    · rcases List.mem_cons.mp hu with e | m
      · rw [e]
        exact a1.mono kA
      · exact (b1 u m).mono kB
    · rcases List.mem_append.mp hb with m | m
      · exact (a2 b m).mono kA
      · exact (b2 b m).mono kB
end
end
/-- what is tracked of an argument's object -/
def hoOf (o : Obj) : Option HO := match o.data with
  | .seq vs _ => if (o.cls == Value.type "list") = true then some (.frz o (.lst (vs.toList.map toV))) else some (.frz o (.tup (vs.toList.map toV)))
  | _ => none
def argH (K : PySem.W.Frag) (h : Heap) (A : List Addr) : Hp := fun b => if b ∈ A then (if (K.lookup b).isNone = true then (h.get? b).bind hoOf else none) else none
/-- nothing is tracked but what is known to the object -/
def OnlyF (H : Hp) : Prop := ∀ b, H b = none ∨ ∃ o u, H b = some (.frz o u)
theorem hoOf_lst (vs : List Value) : hoOf { cls := .type "list", data := .seq vs.toArray } = some (.frz { cls := .type "list", data := .seq vs.toArray } (.lst (vs.map toV))) := by
  show (if (Value.type "list" == Value.type "list") = true then some (HO.frz { cls := .type "list", data := .seq vs.toArray } (.lst (vs.toArray.toList.map toV))) else some (HO.frz { cls := .type "list", data := .seq vs.toArray } (.tup (vs.toArray.toList.map toV)))) = _
  rw [if_pos (beq_self_eq_true _)]
theorem hoOf_tup (vs : List Value) : hoOf { cls := .type "tuple", data := .seq vs.toArray } = some (.frz { cls := .type "tuple", data := .seq vs.toArray } (.tup (vs.map toV))) := by
  show (if (Value.type "tuple" == Value.type "list") = true then some (HO.frz { cls := .type "tuple", data := .seq vs.toArray } (.lst (vs.toArray.toList.map toV))) else some (HO.frz { cls := .type "tuple", data := .seq vs.toArray } (.tup (vs.toArray.toList.map toV)))) = _
  rw [if_neg (by decide)]
section
variable {P : Program} {w : World} {K : PySem.W.Frag} {h : Heap} {A : List Addr}
theorem argH_at {b : Addr} {o : Obj} (hb : b ∈ A) (hk : K.lookup b = none) (e : h.get? b = some o) : argH K h A b = hoOf o := by
  unfold argH
  rw [if_pos hb, hk, if_pos (show (none : Option Obj).isNone = true from rfl), e] <;> rfl
theorem of_argH {b : Addr} {u : HO} (q : argH K h A b = some u) : b ∈ A ∧ K.lookup b = none := by
  unfold argH at q
  by_cases hb : b ∈ A
  · rw [if_pos hb] at q
    cases hk : K.lookup b with
    | none => exact ⟨hb, rfl⟩
    | some o =>
      rw [hk, if_neg (by simp)] at q
      cases q
  · rw [if_neg hb] at q
    cases q
/-- what stands tracked -/
theorem argH_is (ar : ∀ a ∈ A, ArgOb h A a) {b : Addr} {u : HO} (q : argH K h A b = some u) : K.lookup b = none ∧ ∃ vs : List Value, vs.length ≤ sizeLine ∧ (∀ u ∈ vs, OkU A u) ∧
    ((h.get? b = some { cls := .type "list", data := .seq vs.toArray } ∧ u = .frz { cls := .type "list", data := .seq vs.toArray } (.lst (vs.map toV))) ∨
     (h.get? b = some { cls := .type "tuple", data := .seq vs.toArray } ∧ u = .frz { cls := .type "tuple", data := .seq vs.toArray } (.tup (vs.map toV)))) := by
  obtain ⟨hb, hk⟩ := of_argH q
  obtain ⟨vs, h1, h2, h3⟩ := ar b hb
  refine ⟨hk, vs, h1, h2, ?_⟩
  rcases h3 with e | e
  · rw [argH_at hb hk e, hoOf_lst] at q
    exact .inl ⟨e, (Option.some.inj q).symm⟩
  · rw [argH_at hb hk e, hoOf_tup] at q
    exact .inr ⟨e, (Option.some.inj q).symm⟩
theorem argH_only (ar : ∀ a ∈ A, ArgOb h A a) : OnlyF (argH K h A) := fun b => by
  cases q : argH K h A b with
  | none => exact .inl rfl
  | some u =>
    obtain ⟨_, vs, _, _, ⟨_, e⟩ | ⟨_, e⟩⟩ := argH_is ar q
    · exact .inr ⟨_, _, by rw [e]⟩
    · exact .inr ⟨_, _, by rw [e]⟩
theorem argH_ok (ar : ∀ a ∈ A, ArgOb h A a) : HOk P w (argH K h A) h := fun b u q => by
  obtain ⟨_, vs, h1, h2, ⟨e, rfl⟩ | ⟨e, rfl⟩⟩ := argH_is ar q
  · exact ⟨e, by rw [List.length_map]; exact h1, vs, _, vals_toV h2, e⟩
  · exact ⟨e, by rw [List.length_map]; exact h1, vs, vals_toV h2, _, e, rfl, _, rfl⟩
theorem seq_inj {c c' : Value} {vs us : List Value} (e : (some { cls := c, data := .seq vs.toArray } : Option Obj) = some { cls := c', data := .seq us.toArray }) : c = c' ∧ vs = us := by
  have e1 := Option.some.inj e
  have e2 : c = c' := congrArg Obj.cls e1
  have e3 : Data.seq vs.toArray = Data.seq us.toArray := congrArg Obj.data e1
  injection e3 with e4
  refine ⟨e2, ?_⟩
  have e5 := congrArg Array.toList e4
  simpa using e5
/-- a list argument -/
theorem argL (KX : K.In h) (ar : ∀ a ∈ A, ArgOb h A a) {a : Addr} {vs : List Value} (ha : a ∈ A) (e : h.get? a = some { cls := .type "list", data := .seq vs.toArray }) : (∀ u ∈ vs, OkU A u) ∧ SqL K (argH K h A) a (vs.map toV) := by
  obtain ⟨us, h1, h2, h3⟩ := ar a ha
  have hu : us = vs := by
    rcases h3 with q | q
    · rw [e] at q
      exact (seq_inj q).2.symm
    · rw [e] at q
      exact absurd (Value.type.inj (seq_inj q).1) (by decide)
  subst hu
  refine ⟨h2, ?_⟩
  cases hk : K.lookup a with
  | none => exact .inl (.inr ⟨_, by rw [argH_at ha hk e, hoOf_lst]⟩)
  | some o =>
    have e2 := KX a o hk
    rw [e] at e2
    obtain rfl := Option.some.inj e2
    exact .inr ⟨_, us.toArray, _, hk, rfl, rfl, rfl, by rw [List.size_toArray]; exact h1, by simpa using vals_toV h2⟩
theorem argT (KX : K.In h) (ar : ∀ a ∈ A, ArgOb h A a) {a : Addr} {vs : List Value} (ha : a ∈ A) (e : h.get? a = some { cls := .type "tuple", data := .seq vs.toArray }) : (∀ u ∈ vs, OkU A u) ∧ SqT K (argH K h A) a (vs.map toV) := by
  obtain ⟨us, h1, h2, h3⟩ := ar a ha
  have hu : us = vs := by
    rcases h3 with q | q
    · rw [e] at q
      exact absurd (Value.type.inj (seq_inj q).1) (by decide)
    · rw [e] at q
      exact (seq_inj q).2.symm
  subst hu
  refine ⟨h2, ?_⟩
  cases hk : K.lookup a with
  | none => exact .inl (.inr ⟨_, by rw [argH_at ha hk e, hoOf_tup]⟩)
  | some o =>
    have e2 := KX a o hk
    rw [e] at e2
    obtain rfl := Option.some.inj e2
    exact .inr ⟨_, us.toArray, _, hk, rfl, rfl, by rw [List.size_toArray]; exact h1, by simpa using vals_toV h2⟩
mutual
theorem dw_one {Pm : Params} (KX : K.In h) (ar : ∀ a ∈ A, ArgOb h A a) : ∀ (d : WData) (v : Value), Well Pm h v d → plW d = true → OkU A v → Dw K (argH K h A) (toV v) d
  | .none, _, x, _, _ => by
    cases x
    exact .non
  | .bool b, _, x, _, _ => by
    cases x
    exact .bl b
  | .int i, _, x, _, _ => by
    cases x
    exact .int i
  | .str s, _, x, _, _ => by
    cases x
    exact .str s
  | .bytes b, _, x, _, _ => by
    cases x
    have z := Dw.byt (K := K) (H := argH K h A) b.toArray
    exact z
  | .list ds, _, x, p, hu => by
    obtain ⟨a, vs, rfl, ho, hall⟩ := well_list x
    obtain ⟨h2, hs⟩ := argL KX ar hu ho
    exact .lst hs (dw_all KX ar ds _ hall p h2)
  | .tuple ds, _, x, p, hu => by
    obtain ⟨a, vs, rfl, ho, hall⟩ := well_tuple x
    obtain ⟨h2, hs⟩ := argT KX ar hu ho
    exact .tup hs (dw_all KX ar ds _ hall p h2)
  | .float _, _, _, p, _ => Bool.noConfusion (show false = true from p)
  | .dict _, _, _, p, _ => Bool.noConfusion (show false = true from p)
  | .bytearray _, _, _, p, _ => Bool.noConfusion (show false = true from p)
  | .set _, _, _, p, _ => Bool.noConfusion (show false = true from p)
  | .frozenset _, _, _, p, _ => Bool.noConfusion (show false = true from p)
  | .obj _ _, _, _, p, _ => Bool.noConfusion (show false = true from p)
theorem dw_all {Pm : Params} (KX : K.In h) (ar : ∀ a ∈ A, ArgOb h A a) : ∀ (ds : List WData) (vs : List Value), WellAll Pm h vs ds → plWs ds = true → (∀ u ∈ vs, OkU A u) → DwAll K (argH K h A) (vs.map toV) ds
  | [], _, x, _, _ => by
    cases x
    exact .nil
  | d :: ds, _, x, p, hu => by
    obtain ⟨v, vs, rfl, x1, x2⟩ := well_cons x
    have q : plW d = true ∧ plWs ds = true := Bool.and_eq_true_iff.mp p
    exact .cons (dw_one KX ar d v x1 q.1 (hu _ (List.mem_cons_self ..))) (dw_all KX ar ds vs x2 q.2 fun u m => hu u (List.mem_cons_of_mem _ m))
end
end
/-! ### the call -/
theorem spec_call {P : Program} {w : World} {K : PySem.W.Frag} {mg mb : Str → Option Value} {CX : CXT} {k : Nat} {fa : Addr} {fd : FuncData} {ps : List Str} {sp : Sp} {s₁ : Shared} {vals : List Value} {ds : List WData} {R : PySem.W.WRecords} {cl : Str → Option Addr} {d0 : WData}
    (KX : K.In s₁.heap) (hns : s₁.heap.Ns mainGlobals mg) (hb : s₁.heap.Ns builtinsNs mb) (hbb : ∀ x : Str, x ≠ "__name__" → mb x = bootBuiltins x) (hlim : s₁.heap.NoLimit) (hg : s₁.gens = #[])
    (hwl : WellAll w.params s₁.heap vals ds) (hpl : plWs ds = true) (hwt : ∀ d ∈ ds, d.weight ≤ 1048576) (hr : Room k callerA)
    (F : ∀ base : Heap, K.In base → base.Ns mainGlobals mg → FnOk P w K mg base CX k fa fd ps sp) (hbind : ∀ (s : Shared) (us : List Value), us.length = ps.length → BindsTo s fd ⟨us, []⟩ (ps.zip us)) (hlen : ds.length = ps.length)
    (hsp : ∀ (H : Hp) (xs : List V), OnlyF H → DwAll K H xs ds → sp xs H (fun v H' => Dw K H' v d0) fun _ _ _ => False)
    (hCX : ∀ H e s', CX [] H s₁ (fun _ _ _ => False) e s' → False) :
    codeAny (model P w) callerA (.call (.ref fa) ⟨vals, []⟩) (fun r s' => ∃ u as, r = .ok (.ret u) ∧ ReadsW R cl s'.heap u d0 as ∧ OldK s₁.heap s'.heap ∧ s'.os = s₁.os ∧ AllBare s'.gens) s₁ := by
  obtain ⟨A, ho, ar⟩ := area_all ds vals hwl hpl hwt
  have hO : OnlyF (argH K s₁.heap A) := argH_only ar
  have hok : HOk P w (argH K s₁.heap A) s₁.heap := argH_ok ar
  have hS := dw_all KX ar ds vals hwl hpl ho
  have hV := vals_toV ho
  have hK : ∀ b u, argH K s₁.heap A b = some u → K.lookup b = none := fun b u q => (argH_is ar q).1
  have noA : ∀ {b : Addr} {o : Obj} {es : Array DictEntry} {ep : Nat}, s₁.heap.get? b = some o → o.data = .dict es ep → argH K s₁.heap A b = none := fun {b o es ep} e d => by
    cases q : argH K s₁.heap A b with
    | none => rfl
    | some u =>
      obtain ⟨_, vs, _, _, ⟨e2, _⟩ | ⟨e2, _⟩⟩ := argH_is ar q
      · rw [e2] at e
        cases e
        have d' : Data.seq vs.toArray _ = Data.dict es ep := d
        cases d'
      · rw [e2] at e
        cases e
        have d' : Data.seq vs.toArray _ = Data.dict es ep := d
        cases d'
  generalize argH K s₁.heap A = H at hO hok hS hK noA
  have base_of : ∀ {b : Addr} {o : Obj}, s₁.heap.get? b = some o → H b = none → (hidT s₁.heap H).get? b = some o := fun e n => hidT_get e n
  have nsK : ∀ {b : Addr} {m : Str → Option Value}, s₁.heap.Ns b m → (hidT s₁.heap H).Ns b m := fun {b m} ⟨o, es, ep, e, d, r⟩ => ⟨o, es, ep, base_of e (noA e d), d, r⟩
  have nK : ∀ b o, K.lookup b = some o → H b = none := fun b o e => by
    cases q : H b with
    | none => rfl
    | some u =>
      rw [hK b u q] at e
      cases e
  have hKb : K.In (hidT s₁.heap H) := fun b o e => base_of (KX b o e) (nK b o e)
  have hM : Mod K mg (hidT s₁.heap H) := ⟨hKb, nsK hns, ⟨mb, nsK hb, hbb⟩, let ⟨mc, h1, h2⟩ := hlim; ⟨mc, nsK h1, h2⟩⟩
  have e0 : Env0 P w K mg (hidT s₁.heap H) callerA [] s₁ H := ⟨rfl, hM, fun b o e => of_hidT e, Nat.le_of_eq (hidT_size _ _), trivial, fun b hb => absurd (show b ∈ ([] : List Addr) from hb) (by simp), hok, .of_eq hg⟩
  have hl : vals.length = ps.length := by rw [wellAll_len hwl]; exact hlen
  refine codeAny_mono ((F _ hKb (nsK hns)).run callerA [] s₁ H ⟨vals, []⟩ vals (vals.map toV) _ _ hr e0 (hbind s₁ vals hl) hV (hsp H _ hO hS)) fun r s' x => ?_
  cases r with
  | error e => exact (hCX H e s' x).elim
  | ok fl =>
    cases fl with
    | next => exact False.elim x
    | brk => exact False.elim x
    | cont => exact False.elim x
    | ret u =>
      obtain ⟨v, H', os, bare, un, hok', r', q⟩ := x
      have kept : ∀ b o, s₁.heap.get? b = some o → s'.heap.get? b = some o := fun b o e => by
        cases q2 : H b with
        | none => exact un.keep b o e q2 (by intro z; exact absurd (show b ∈ ([] : List Addr) from z) (by simp)) (by simp)
        | some u2 =>
          rcases hO b with z | ⟨ob, u3, z⟩
          · rw [q2] at z
            cases z
          · have z2 := un.frzs b ob _ z
            obtain ⟨e1, _⟩ := hok b _ z
            obtain ⟨e2, _⟩ := hok' b _ z2
            rw [e] at e1
            cases e1
            exact e2
      have KX' : K.In s'.heap := fun b o e => kept b o (KX b o e)
      obtain ⟨as, hrd⟩ := Dw.reads (R := R) (cl := cl) hok' KX' d0 v u q r'
      exact ⟨u, as, rfl, hrd, OldK.of_keep kept, os, bare⟩
/-! ### the row -/
theorem layable_weight {ds : List WData} (h : WData.layableAll ds = true) : ∀ d ∈ ds, d.weight ≤ 1048576 := fun d hd =>
  (PySem.W.layableW_iff.mp (List.all_eq_true.mp h d hd)).2.2
theorem encAll_len : ∀ (cs : List Codec) (a : Codec.denoteAll cs), (Codec.encAll cs a).length = cs.length
  | [], _ => rfl
  | c :: cs, a => by
    show (Codec.encAll cs a.2).length + 1 = cs.length + 1
    rw [encAll_len cs a.2]
/-- the goal that k_headS leaves (case hc), from the promise of the row's def: whatever the arguments that the codecs let and the row asks for, the def gives what stands for enc (f ..) -/
theorem walk_spec {r : OpenSpec} {k : Nat} {q : Program} {loose : List Str} {XP : (Str → Option Value) → Heap → Prop} {YP : World → Heap → Prop} {d : DefRec} {K : Params → PySem.W.Frag} {CX : World → CXT} {ps : List Str} {sp : World → Sp}
    (hwell : r.wellSaid = true) (hdf : d.params.defaults = []) (hlen : r.args.length = ps.length) (hr : Room k callerA)
    (hY : ∀ (w : World) (h : Heap), YP w h → (K w.params).In h)
    (F : ∀ (w : World) (mg : Str → Option Value) (fa : Addr) (h : Heap), YP w h → (K w.params).In h → h.Ns mainGlobals mg → mg d.name = some (.ref fa) →
      ∃ fd : FuncData, (∀ (s : Shared) (us : List Value), us.length = ps.length → BindsTo s fd ⟨us, []⟩ (ps.zip us)) ∧
        ∀ base : Heap, (K w.params).In base → base.Ns mainGlobals mg → FnOk r.prog w (K w.params) mg base (CX w) k fa fd ps (sp w))
    (hsp : ∀ (w : World) (H : Hp) (xs : List V) (a : Codec.denoteAll r.args), OnlyF H → Codec.withinAll r.args a = true → Codec.app r.args r.asked a = true → DwAll (K w.params) H xs (Codec.encAll r.args a) →
      sp w xs H (fun v H' => Dw (K w.params) H' v (r.ret.enc (Codec.app r.args r.f a))) fun _ _ _ => False)
    (hCX : ∀ (w : World) (H : Hp) (s : Shared) (e : Value) (s' : Shared), CX w [] H s (fun _ _ _ => False) e s' → False) :
    PySem.W.WalkOS q loose XP YP r d [] (fun f vs => PySem.call f vs) := by
  intro w s_0 s₁ mg mb G Y fa o pm cd doc dV kV ho hd hcd hD hmg hg args vals as hpre hlay hrd hwl hlo
  obtain ⟨a, e1, e2⟩ := PySem.W.os_pre_some hpre
  obtain ⟨e3, hwi⟩ := Codec.encAll_of_decAll r.args args a e1
  subst e3
  have KX := hY w _ Y
  obtain ⟨fd, hb, hF⟩ := F w mg fa _ Y KX G.T.g hmg
  refine PySem.W.enter_call (codeAny_mono (spec_call (R := []) (cl := classAt s_0.heap) (d0 := r.ret.enc (Codec.app r.args r.f a)) KX G.T.g G.T.b G.T.builtins G.T.nolimit hg hwl (pl_encAll _ _) (layable_weight hlay) hr hF hb (by rw [encAll_len]; exact hlen)
    (fun H xs hO hS => hsp w H xs a hO hwi e2 hS) fun H e s' => hCX w H s₁ e s') fun r' s' hq => ?_)
  obtain ⟨u, as', rfl, h1, h2, h3, h4⟩ := hq
  exact ⟨.inl ⟨u, _, as', rfl, fun _ => rfl, h1, (OpenSpec.post_iff hwell hwi _ _).mpr rfl, fun z => Bool.noConfusion (show false = true from z)⟩, h2, h3, h4⟩
/-- the same where the promise hangs on the written part alone -/
theorem walk_specK {r : OpenSpec} {k : Nat} {q : Program} {loose : List Str} {XP : (Str → Option Value) → Heap → Prop} {YP : World → Heap → Prop} {d : DefRec} {K : Params → PySem.W.Frag} {CX : CXT} {ps : List Str} {sp : PySem.W.Frag → Sp}
    (hwell : r.wellSaid = true) (hdf : d.params.defaults = []) (hlen : r.args.length = ps.length) (hr : Room k callerA)
    (hY : ∀ (w : World) (h : Heap), YP w h → (K w.params).In h)
    (F : ∀ (w : World) (mg : Str → Option Value) (fa : Addr) (h : Heap), YP w h → (K w.params).In h → h.Ns mainGlobals mg → mg d.name = some (.ref fa) →
      ∃ fd : FuncData, (∀ (s : Shared) (us : List Value), us.length = ps.length → BindsTo s fd ⟨us, []⟩ (ps.zip us)) ∧
        ∀ base : Heap, (K w.params).In base → base.Ns mainGlobals mg → FnOk r.prog w (K w.params) mg base CX k fa fd ps (sp (K w.params)))
    (hsp : ∀ (K : PySem.W.Frag) (H : Hp) (xs : List V) (a : Codec.denoteAll r.args), OnlyF H → Codec.withinAll r.args a = true → Codec.app r.args r.asked a = true → DwAll K H xs (Codec.encAll r.args a) →
      sp K xs H (fun v H' => Dw K H' v (r.ret.enc (Codec.app r.args r.f a))) fun _ _ _ => False)
    (hCX : ∀ (H : Hp) (s : Shared) (e : Value) (s' : Shared), CX [] H s (fun _ _ _ => False) e s' → False) :
    PySem.W.WalkOS q loose XP YP r d [] (fun f vs => PySem.call f vs) :=
  walk_spec (K := K) (CX := fun _ => CX) (sp := fun w => sp (K w.params)) hwell hdf hlen hr hY F (fun w H xs a h1 h2 h3 h4 => hsp (K w.params) H xs a h1 h2 h3 h4) fun _ H s e s' => hCX H s e s'
end L2
end
/-! Marbles: tilts as one number. -/
namespace Mg
open Klm

/-! ### numbers bit by bit -/
theorem bit_xor {a b x y : Nat} (ha : a ≤ 1) (hb : b ≤ 1) : (a + 2 * x) ^^^ (b + 2 * y) = (if a = b then 0 else 1) + 2 * (x ^^^ y) := by
  apply Nat.eq_of_testBit_eq
  intro i
  cases i with
  | zero =>
    rw [Nat.testBit_xor]
    simp only [Nat.testBit_zero]
    have h1 : (a + 2 * x) % 2 = a := by omega
    have h2 : (b + 2 * y) % 2 = b := by omega
    rw [h1, h2]
    have h3 : ((if a = b then 0 else 1) + 2 * (x ^^^ y)) % 2 = (if a = b then 0 else 1) := by split <;> omega
    rw [h3]
    have : a = 0 ∨ a = 1 := by omega
    have : b = 0 ∨ b = 1 := by omega
    rcases ‹a = 0 ∨ a = 1› with rfl | rfl <;> rcases ‹b = 0 ∨ b = 1› with rfl | rfl <;> decide
  | succ i =>
    rw [Nat.testBit_xor]
    simp only [Nat.testBit_succ]
    have h1 : (a + 2 * x) / 2 = x := by omega
    have h2 : (b + 2 * y) / 2 = y := by omega
    have h3 : ((if a = b then 0 else 1) + 2 * (x ^^^ y)) / 2 = x ^^^ y := by split <;> omega
    rw [h1, h2, h3, Nat.testBit_xor]

theorem bit_and {a b x y : Nat} (ha : a ≤ 1) (hb : b ≤ 1) : (a + 2 * x) &&& (b + 2 * y) = a * b + 2 * (x &&& y) := by
  have hab : a * b ≤ 1 := Nat.mul_le_mul ha hb
  apply Nat.eq_of_testBit_eq
  intro i
  cases i with
  | zero =>
    rw [Nat.testBit_and]
    simp only [Nat.testBit_zero]
    have h1 : (a + 2 * x) % 2 = a := by omega
    have h2 : (b + 2 * y) % 2 = b := by omega
    have h3 : (a * b + 2 * (x &&& y)) % 2 = a * b := by omega
    rw [h1, h2, h3]
    have : a = 0 ∨ a = 1 := by omega
    have : b = 0 ∨ b = 1 := by omega
    rcases ‹a = 0 ∨ a = 1› with rfl | rfl <;> rcases ‹b = 0 ∨ b = 1› with rfl | rfl <;> decide
  | succ i =>
    rw [Nat.testBit_and]
    simp only [Nat.testBit_succ]
    have h1 : (a + 2 * x) / 2 = x := by omega
    have h2 : (b + 2 * y) / 2 = y := by omega
    have h3 : (a * b + 2 * (x &&& y)) / 2 = x &&& y := by omega
    rw [h1, h2, h3, Nat.testBit_and]

theorem xor_and (x : Nat) : ∀ y : Nat, (x ^^^ y) + 2 * (x &&& y) = x + y := by
  induction x using Nat.strongRecOn with
  | _ x ih =>
    intro y
    by_cases hx : x = 0
    · subst hx; simp
    · have e := ih (x / 2) (by omega) (y / 2)
      have hx' : x = x % 2 + 2 * (x / 2) := by omega
      have hy' : y = y % 2 + 2 * (y / 2) := by omega
      have a1 : x % 2 ≤ 1 := by omega
      have a2 : y % 2 ≤ 1 := by omega
      have h1 := bit_xor (x := x / 2) (y := y / 2) a1 a2
      have h2 := bit_and (x := x / 2) (y := y / 2) a1 a2
      rw [← hx', ← hy'] at h1 h2
      rw [h1, h2]
      have c1 : x % 2 = 0 ∨ x % 2 = 1 := by omega
      have c2 : y % 2 = 0 ∨ y % 2 = 1 := by omega
      have c3 : (if x % 2 = y % 2 then 0 else 1) + 2 * (x % 2 * (y % 2)) = x % 2 + y % 2 := by
        rcases c1 with h | h <;> rcases c2 with h' | h' <;> rw [h, h'] <;> rfl
      omega

/-! ### bools as a number -/
def bitsB : List Bool → Nat
  | [] => 0
  | b :: l => b.toNat + 2 * bitsB l
theorem bitsB_snoc : ∀ (l : List Bool) (b : Bool), bitsB (l ++ [b]) = bitsB l + b.toNat * 2 ^ l.length
  | [], b => by simp [bitsB]
  | a :: l, b => by
    show a.toNat + 2 * bitsB (l ++ [b]) = a.toNat + 2 * bitsB l + b.toNat * 2 ^ (l.length + 1)
    rw [bitsB_snoc l b, Nat.pow_succ]
    have : b.toNat * (2 ^ l.length * 2) = 2 * (b.toNat * 2 ^ l.length) := by
      rw [← Nat.mul_assoc, Nat.mul_comm]
    rw [this]; omega
theorem bits_snoc : ∀ (l : List Gate) (g : Gate), bits (l ++ [g]) = bits l + g.tilt * 2 ^ l.length
  | [], g => by simp [bits]
  | a :: l, g => by
    show a.tilt + 2 * bits (l ++ [g]) = a.tilt + 2 * bits l + g.tilt * 2 ^ (l.length + 1)
    rw [bits_snoc l g, Nat.pow_succ]
    have : g.tilt * (2 ^ l.length * 2) = 2 * (g.tilt * 2 ^ l.length) := by
      rw [← Nat.mul_assoc, Nat.mul_comm]
    rw [this]; omega

/-- the tilts are 0 or 1 -/
def Tl (gs : List Gate) : Prop := ∀ g ∈ gs, g.tilt ≤ 1
theorem Tl.tail {g : Gate} {l : List Gate} (h : Tl (g :: l)) : Tl l := fun x hx => h x (List.mem_cons_of_mem _ hx)
theorem Tl.head {g : Gate} {l : List Gate} (h : Tl (g :: l)) : g.tilt ≤ 1 := h g List.mem_cons_self

theorem bits_at : ∀ {gs : List Gate} {k : Nat} {g : Gate}, Tl gs → gs[k]? = some g → bits gs / 2 ^ k % 2 = g.tilt
  | a :: l, 0, g, h, e => by
    have e : a = g := Option.some.inj e
    subst e
    have := h.head
    show (a.tilt + 2 * bits l) / 2 ^ 0 % 2 = a.tilt
    rw [Nat.pow_zero, Nat.div_one]; omega
  | a :: l, k + 1, g, h, e => by
    have e : l[k]? = some g := e
    have := h.head
    show (a.tilt + 2 * bits l) / 2 ^ (k + 1) % 2 = g.tilt
    rw [Nat.pow_succ, Nat.mul_comm (2 ^ k) 2, ← Nat.div_div_eq_div_mul]
    have : (a.tilt + 2 * bits l) / 2 = bits l := by omega
    rw [this]
    exact bits_at h.tail e
  | [], k, g, h, e => by simp at e

/-- those of the list are turned -/
def flipAll : List Bool → List Gate → List Gate
  | b :: f, g :: l => (if b then turned g else g) :: flipAll f l
  | _, l => l
theorem bits_flip : ∀ {f : List Bool} {gs : List Gate}, f.length = gs.length → Tl gs → bits (flipAll f gs) = bits gs ^^^ bitsB f
  | [], [], _, _ => by simp [flipAll, bits, bitsB]
  | b :: f, g :: l, e, h => by
    have e : f.length = l.length := by simpa using e
    have ih := bits_flip e h.tail
    have hg := h.head
    show (if b then turned g else g).tilt + 2 * bits (flipAll f l) = (g.tilt + 2 * bits l) ^^^ (b.toNat + 2 * bitsB f)
    rw [ih, bit_xor hg (by cases b <;> decide)]
    cases b with
    | false =>
      have : g.tilt = 0 ∨ g.tilt = 1 := by omega
      rcases this with z | z <;> simp [z]
    | true =>
      have : g.tilt = 0 ∨ g.tilt = 1 := by omega
      rcases this with z | z <;> simp [z, turned]

/-! ### what a marble over gate k turns -/
def oneHot (n k : Nat) : List Bool := (List.range n).map fun i => i == k
/-- by kinds -/
def flipB (ks : List Nat) (k : Nat) : List Bool :=
  if ks.getD k 1 = 1 then ks.map fun _ => false else if ks.getD k 1 = 0 then oneHot ks.length k else ks.map fun j => j == ks.getD k 1
def flipN (ks : List Nat) (k : Nat) : Nat :=
  if ks.getD k 1 = 1 then 0 else if ks.getD k 1 = 0 then 2 ^ k else bitsB (ks.map fun j => j == ks.getD k 1)
theorem bitsB_false : ∀ {α : Type} (l : List α), bitsB (l.map fun _ => false) = 0
  | _, [] => rfl
  | _, a :: l => by
    show false.toNat + 2 * bitsB (l.map fun _ => false) = 0
    rw [bitsB_false l]; rfl
theorem bitsB_hot : ∀ (n k : Nat), k < n → bitsB (oneHot n k) = 2 ^ k := by
  intro n
  induction n with
  | zero => intro k h; omega
  | succ n ih =>
    intro k h
    unfold oneHot
    rw [List.range_succ, List.map_append, List.map_cons, List.map_nil, bitsB_snoc]
    by_cases e : k = n
    · subst e
      have : bitsB ((List.range k).map fun i => i == k) = 0 := by
        have : ((List.range k).map fun i => i == k) = (List.range k).map fun _ => false := by
          apply List.map_congr_left
          intro a ha
          have := List.mem_range.mp ha
          simp; omega
        rw [this, bitsB_false]
      rw [this]; simp
    · have := ih k (by omega)
      unfold oneHot at this
      rw [this]
      have : (n == k) = false := by simp; omega
      rw [this]; simp
theorem flipB_len (ks : List Nat) (k : Nat) : (flipB ks k).length = ks.length := by
  unfold flipB oneHot
  split
  · simp
  · split <;> simp
theorem flipB_bits {ks : List Nat} {k : Nat} (h : k < ks.length) : bitsB (flipB ks k) = flipN ks k := by
  unfold flipB flipN
  split
  · exact bitsB_false ks
  · split
    · exact bitsB_hot _ _ h
    · rfl

theorem flipAll_none : ∀ (gs : List Gate) {α : Type} (l : List α), flipAll (l.map fun _ => false) gs = gs
  | [], _, [] => rfl
  | [], _, _ :: _ => rfl
  | _ :: _, _, [] => rfl
  | g :: gs, _, a :: l => by
    show (if false = true then turned g else g) :: flipAll (l.map fun _ => false) gs = g :: gs
    rw [flipAll_none gs l]; rfl
theorem flipAll_kind : ∀ (gs : List Gate) (j : Nat), flipAll ((gs.map (·.kind)).map fun i => i == j) gs = gs.map fun g => if g.kind = j then turned g else g
  | [], j => rfl
  | g :: gs, j => by
    show (if (g.kind == j) = true then turned g else g) :: flipAll ((gs.map (·.kind)).map fun i => i == j) gs = (if g.kind = j then turned g else g) :: gs.map _
    rw [flipAll_kind gs j]
    simp
theorem map_range_succ {α : Type} (f : Nat → α) (n : Nat) : (List.range (n + 1)).map f = f 0 :: (List.range n).map (fun i => f (i + 1)) := by
  rw [List.range_succ_eq_map, List.map_cons, List.map_map]; rfl
theorem flipAll_hot : ∀ (gs : List Gate) (k : Nat) (g : Gate), gs[k]? = some g → flipAll (oneHot gs.length k) gs = gs.set k (turned g)
  | [], k, g, e => by simp at e
  | a :: gs, 0, g, e => by
    have e : a = g := Option.some.inj e
    subst e
    unfold oneHot
    rw [List.length_cons, map_range_succ]
    show (if (0 == 0) = true then turned a else a) :: flipAll ((List.range gs.length).map fun i => (i + 1) == 0) gs = turned a :: gs
    have : ((List.range gs.length).map fun i => (i + 1) == 0) = (List.range gs.length).map fun _ => false := by
      apply List.map_congr_left; intro x _; simp
    rw [this, flipAll_none]; rfl
  | a :: gs, k + 1, g, e => by
    have e : gs[k]? = some g := e
    have ih := flipAll_hot gs k g e
    unfold oneHot at ih ⊢
    rw [List.length_cons, map_range_succ]
    show (if (0 == k + 1) = true then turned a else a) :: flipAll ((List.range gs.length).map fun i => (i + 1) == (k + 1)) gs = a :: gs.set k (turned g)
    have : ((List.range gs.length).map fun i => (i + 1) == (k + 1)) = (List.range gs.length).map fun i => i == k := by
      apply List.map_congr_left; intro x _; simp
    rw [this, ih]; simp

theorem gate_of {m : Machine} {k : Nat} {g : Gate} (h : m.gates[k]? = some g) : gate m k = g := by
  unfold gate; rw [List.getD_eq_getElem?_getD, h]; rfl
theorem kind_of {m : Machine} {k : Nat} {g : Gate} (h : m.gates[k]? = some g) : (m.gates.map (·.kind)).getD k 1 = g.kind := by
  rw [List.getD_eq_getElem?_getD, List.getElem?_map, h]; rfl
theorem passed_flip {m : Machine} {k : Nat} {g : Gate} (h : m.gates[k]? = some g) : passed m k = { m with gates := flipAll (flipB (m.gates.map (·.kind)) k) m.gates } := by
  have e1 := gate_of h
  have e2 := kind_of h
  unfold passed flipB
  rw [e1, e2]
  match hk : g.kind with
  | 0 =>
    simp only [List.length_map]
    rw [if_neg (by decide), if_pos trivial, flipAll_hot _ _ _ h]
  | 1 =>
    simp only
    rw [if_pos trivial, flipAll_none]
  | j + 2 =>
    simp only
    rw [if_neg (by omega), if_neg (by omega), flipAll_kind]
theorem passed_bits {m : Machine} {k : Nat} {g : Gate} (h : m.gates[k]? = some g) (ht : Tl m.gates) : bits (passed m k).gates = bits m.gates ^^^ flipN (m.gates.map (·.kind)) k := by
  rw [passed_flip h]
  have hk : k < (m.gates.map (·.kind)).length := by
    rw [List.length_map]; exact (List.getElem?_eq_some_iff.mp h).1
  rw [bits_flip (by rw [flipB_len, List.length_map]) ht, flipB_bits hk]

/-! ### what a fall leaves as it is -/
/-- a gate without its tilt -/
def Gsh (g : Gate) : Nat × Nat × Nat := (g.kind, g.left, g.right)
/-- the same machine up to tilts (which are 0 or 1) -/
structure Sh (m m' : Machine) : Prop where
  g : m'.gates.map Gsh = m.gates.map Gsh
  e : m'.entries = m.entries
  l : m'.levers = m.levers
  t : Tl m'.gates
theorem Sh.len {m m' : Machine} (s : Sh m m') : m'.gates.length = m.gates.length := by
  have := congrArg List.length s.g
  simpa using this
theorem Sh.kinds {m m' : Machine} (s : Sh m m') : m'.gates.map (·.kind) = m.gates.map (·.kind) := by
  have := congrArg (List.map (fun x : Nat × Nat × Nat => x.1)) s.g
  rw [List.map_map, List.map_map] at this
  exact this
theorem Sh.trans {m m1 m2 : Machine} (a : Sh m m1) (b : Sh m1 m2) : Sh m m2 := ⟨b.g.trans a.g, b.e.trans a.e, b.l.trans a.l, b.t⟩
theorem flipAll_sh : ∀ (f : List Bool) (gs : List Gate), (flipAll f gs).map Gsh = gs.map Gsh
  | [], gs => rfl
  | b :: f, [] => rfl
  | b :: f, g :: l => by
    show Gsh (if b = true then turned g else g) :: (flipAll f l).map Gsh = Gsh g :: l.map Gsh
    rw [flipAll_sh f l]
    cases b <;> rfl
theorem flipAll_tl : ∀ (f : List Bool) (gs : List Gate), Tl gs → Tl (flipAll f gs)
  | [], gs, h => h
  | b :: f, [], h => h
  | b :: f, g :: l, h => by
    intro x hx
    rcases List.mem_cons.mp hx with e | hx
    · subst e
      have := h.head
      cases b with
      | false => exact this
      | true =>
        show 1 - g.tilt ≤ 1
        omega
    · exact flipAll_tl f l h.tail x hx
theorem passed_sh {m : Machine} {k : Nat} {g : Gate} (h : m.gates[k]? = some g) (ht : Tl m.gates) : Sh m (passed m k) := by
  rw [passed_flip h]
  exact ⟨flipAll_sh _ _, rfl, rfl, flipAll_tl _ _ ht⟩
theorem Sh.at {m m' : Machine} (s : Sh m m') {k : Nat} {g' : Gate} (h : m'.gates[k]? = some g') : ∃ g, m.gates[k]? = some g ∧ g.kind = g'.kind ∧ g.left = g'.left ∧ g.right = g'.right := by
  have e : (m'.gates.map Gsh)[k]? = some (Gsh g') := by rw [List.getElem?_map, h]; rfl
  rw [s.g, List.getElem?_map] at e
  obtain ⟨g, hg, e⟩ := Option.map_eq_some_iff.mp e
  refine ⟨g, hg, ?_⟩
  unfold Gsh at e
  simp only [Prod.mk.injEq] at e
  exact e

/-! ### right -/
theorem okGates_at : ∀ {n k0 : Nat} {gs : List Gate} {i : Nat} {g : Gate}, okGates n k0 gs = true → gs[i]? = some g → okGate n (k0 + i) g = true
  | n, k0, [], i, g, _, e => by simp at e
  | n, k0, a :: gs, 0, g, h, e => by
    have e : a = g := Option.some.inj e
    subst e
    unfold okGates at h
    rw [Bool.and_eq_true] at h
    exact h.1
  | n, k0, a :: gs, i + 1, g, h, e => by
    unfold okGates at h
    rw [Bool.and_eq_true] at h
    have := okGates_at (i := i) h.2 e
    rw [show k0 + 1 + i = k0 + (i + 1) by omega] at this
    exact this
/-- a machine as it must be, in plain words -/
structure Rt (m : Machine) : Prop where
  n : m.gates.length ≤ 64
  g : ∀ (i : Nat) (g : Gate), m.gates[i]? = some g → g.kind ≤ 9 ∧ g.tilt ≤ 1 ∧ ((i < g.left ∧ g.left < m.gates.length) ∨ (64 ≤ g.left ∧ g.left < 80)) ∧ ((i < g.right ∧ g.right < m.gates.length) ∨ (64 ≤ g.right ∧ g.right < 80))
  el : m.entries.length = 4
  e : ∀ w ∈ m.entries, w < m.gates.length ∨ (64 ≤ w ∧ w < 80)
  ll : m.levers.length = 16
  l : ∀ w ∈ m.levers, w ≤ 4
theorem Rt.of {m : Machine} (h : right m = true) : Rt m := by
  unfold right at h
  simp only [Bool.and_eq_true, decide_eq_true_eq, List.all_eq_true] at h
  obtain ⟨⟨⟨⟨⟨h1, h2⟩, h3⟩, h4⟩, h5⟩, h6⟩ := h
  refine ⟨h1, fun i g e => ?_, h3, fun w hw => ?_, h5, fun w hw => h6 w hw⟩
  · have := okGates_at h2 e
    unfold okGate okWay at this
    simp only [Bool.and_eq_true, Bool.or_eq_true, decide_eq_true_eq, Nat.zero_add] at this
    exact ⟨this.1.1.1, this.1.1.2, this.1.2, this.2⟩
  · have := h4 w hw
    unfold okEntry at this
    simp only [Bool.and_eq_true, Bool.or_eq_true, decide_eq_true_eq] at this
    exact this
theorem Rt.tl {m : Machine} (h : Rt m) : Tl m.gates := fun g hg => by
  obtain ⟨i, hi⟩ := List.getElem?_of_mem hg
  exact (h.g i g hi).2.1
theorem Rt.sh {m m' : Machine} (h : Rt m) (s : Sh m m') : Rt m' := by
  refine ⟨by rw [s.len]; exact h.n, fun i g' e => ?_, by rw [s.e]; exact h.el, fun w hw => ?_, by rw [s.l]; exact h.ll, fun w hw => ?_⟩
  · obtain ⟨g, e2, k, l, r⟩ := s.at e
    obtain ⟨h1, h2, h3, h4⟩ := h.g i g e2
    rw [s.len, ← k, ← l, ← r]
    exact ⟨h1, s.t g' (List.mem_of_getElem? e), h3, h4⟩
  · rw [s.len]; rw [s.e] at hw; exact h.e w hw
  · rw [s.l] at hw; exact h.l w hw
theorem Sh.refl {m : Machine} (h : Rt m) : Sh m m := ⟨rfl, rfl, rfl, h.tl⟩

/-! ### one marble -/
theorem falls_out {f : Nat} {m : Machine} {w : Nat} (h : 64 ≤ w) : falls f m w = (m, w - 64) := by
  cases f with
  | zero => rfl
  | succ f => unfold falls; rw [if_pos h]
theorem falls_go {f : Nat} {m : Machine} {w : Nat} (h : w < 64) : falls (f + 1) m w = falls f (passed m w) (way (gate m w)) := by
  show (if 64 ≤ w then (m, w - 64) else falls f (passed m w) (way (gate m w))) = _
  rw [if_neg (by omega)]
/-- where a marble may be -/
def Pl (m : Machine) (w : Nat) : Prop := w < m.gates.length ∨ (64 ≤ w ∧ w < 80)
theorem Rt.way {m : Machine} (h : Rt m) {k : Nat} {g : Gate} (e : m.gates[k]? = some g) : Pl m (way g) ∧ k < way g := by
  obtain ⟨_, _, h3, h4⟩ := h.g k g e
  have hk := (List.getElem?_eq_some_iff.mp e).1
  have hn := h.n
  unfold Pl Klm.way
  split
  · constructor
    · omega
    · omega
  · constructor
    · omega
    · omega
/-- a fall ends: the machine up to tilts, an exit -/
theorem falls_ok : ∀ (f : Nat) {m : Machine} {w : Nat}, Rt m → Pl m w → (w < 64 → 64 ≤ f + w) → Sh m (falls f m w).1 ∧ (falls f m w).2 < 16
  | 0, m, w, h, p, hf => by
    have : 64 ≤ w := by omega
    have hn := h.n
    rw [falls_out this]
    refine ⟨Sh.refl h, ?_⟩
    show w - 64 < 16
    unfold Pl at p
    omega
  | f + 1, m, w, h, p, hf => by
    have hn := h.n
    by_cases hw : 64 ≤ w
    · rw [falls_out hw]
      refine ⟨Sh.refl h, ?_⟩
      show w - 64 < 16
      unfold Pl at p
      omega
    · have hl : w < m.gates.length := by unfold Pl at p; omega
      have e : m.gates[w]? = some m.gates[w] := List.getElem?_eq_getElem hl
      rw [falls_go (by omega), gate_of e]
      have s := passed_sh e h.tl
      obtain ⟨p1, p2⟩ := h.way e
      have p1' : Pl (passed m w) (Klm.way m.gates[w]) := by unfold Pl; rw [s.len]; exact p1
      obtain ⟨q1, q2⟩ := falls_ok f (h.sh s) p1' (by omega)
      exact ⟨s.trans q1, q2⟩
theorem entry_at {m : Machine} (h : Rt m) {e : Nat} (he : e ≤ 3) : ∃ w, m.entries[e]? = some w ∧ m.entries.getD e 64 = w ∧ Pl m w := by
  have hl : e < m.entries.length := by rw [h.el]; omega
  refine ⟨m.entries[e], List.getElem?_eq_getElem hl, ?_, h.e _ (List.getElem_mem hl)⟩
  rw [List.getD_eq_getElem?_getD, List.getElem?_eq_getElem hl]; rfl
theorem drop_ok {m : Machine} (h : Rt m) {e : Nat} (he : e ≤ 3) : Sh m (Klm.drop m e).1 ∧ (Klm.drop m e).2 < 16 := by
  obtain ⟨w, _, e2, p⟩ := entry_at h he
  unfold Klm.drop
  rw [e2]
  exact falls_ok 64 h p (by omega)
end Mg
/-! Marbles: many at once, a run. -/
namespace Mg
open Klm

/-! ### add -/
theorem add_len (l : List Nat) (k v : Nat) : (add l k v).length = l.length := by unfold add; rw [List.length_set]
theorem add_get (l : List Nat) (k v j : Nat) : (add l k v).getD j 0 = if j = k ∧ k < l.length then l.getD k 0 + v else l.getD j 0 := by
  unfold add
  rw [List.getD_eq_getElem?_getD, List.getElem?_set]
  by_cases h : k = j
  · subst h
    by_cases h2 : k < l.length
    · simp [h2]
    · simp [h2]
  · rw [if_neg h, if_neg (by omega), List.getD_eq_getElem?_getD]
theorem list_ext_getD {a b : List Nat} (hl : a.length = b.length) (h : ∀ j, a.getD j 0 = b.getD j 0) : a = b := by
  apply List.ext_getElem hl
  intro i h1 h2
  have := h i
  rw [List.getD_eq_getElem?_getD, List.getD_eq_getElem?_getD, List.getElem?_eq_getElem h1, List.getElem?_eq_getElem h2] at this
  exact this
theorem add_comm (l : List Nat) (a x b y : Nat) : add (add l a x) b y = add (add l b y) a x := by
  apply list_ext_getD
  · simp only [add_len]
  · intro j
    simp only [add_get, add_len]
    by_cases h1 : j = a
    · by_cases h2 : j = b
      · subst h1
        subst h2
        by_cases h3 : j < l.length
        · rw [if_pos ⟨rfl, h3⟩, if_pos ⟨rfl, h3⟩, if_pos ⟨rfl, h3⟩, if_pos ⟨rfl, h3⟩]
          omega
        · rw [if_neg (by omega), if_neg (by omega), if_neg (by omega), if_neg (by omega)]
      · subst h1
        have hb : ∀ {c : Prop}, ¬ (j = b ∧ c) := fun q => h2 q.1
        have hb' : ∀ {c : Prop}, ¬ (b = j ∧ c) := fun q => h2 q.1.symm
        simp only [hb, hb', if_false]
    · by_cases h2 : j = b
      · subst h2
        have hb : ∀ {c : Prop}, ¬ (j = a ∧ c) := fun q => h1 q.1
        have hb' : ∀ {c : Prop}, ¬ (a = j ∧ c) := fun q => h1 q.1.symm
        simp only [hb, hb', if_false]
      · rw [if_neg (fun q => h2 q.1), if_neg (fun q => h1 q.1), if_neg (fun q => h1 q.1), if_neg (fun q => h2 q.1)]

/-! ### the flow, gate by gate -/
/-- gate k lets all its marbles go on -/
def stepK (m : Machine) (k : Nat) (l : List Nat) : List Nat :=
  add (add l (gate m k).left (lefts (gate m k) (l.getD k 0))) (gate m k).right (l.getD k 0 - lefts (gate m k) (l.getD k 0))
theorem flows_stop (m : Machine) (l : List Nat) : ∀ (f k : Nat), m.gates.length ≤ k → flows f m k l = l
  | 0, _, _ => rfl
  | f + 1, k, h => by
    show (if m.gates.length ≤ k then l else _) = l
    rw [if_pos h]
theorem flows_head {m : Machine} {k : Nat} (h : k < m.gates.length) (f : Nat) (l : List Nat) : flows (f + 1) m k l = flows f m (k + 1) (stepK m k l) := by
  show (if m.gates.length ≤ k then l else flows f m (k + 1) (stepK m k l)) = _
  rw [if_neg (by omega)]
theorem flows_last {m : Machine} : ∀ (f k : Nat) (l : List Nat), k + f < m.gates.length → flows (f + 1) m k l = stepK m (k + f) (flows f m k l)
  | 0, k, l, h => by
    rw [flows_head (by omega)]
    rfl
  | f + 1, k, l, h => by
    rw [flows_head (by omega) (f + 1), flows_last f (k + 1) _ (by omega), flows_head (by omega) f, show k + 1 + f = k + (f + 1) by omega]
theorem flows_more {m : Machine} : ∀ (f r k : Nat) (l : List Nat), m.gates.length ≤ k + f → flows (f + r) m k l = flows f m k l
  | 0, r, k, l, h => by rw [flows_stop m l _ k (by omega)]; rfl
  | f + 1, r, k, l, h => by
    by_cases hk : m.gates.length ≤ k
    · rw [flows_stop m l _ k hk, flows_stop m l _ k hk]
    · rw [show f + 1 + r = (f + r) + 1 by omega, flows_head (by omega), flows_head (by omega), flows_more f r (k + 1) _ (by omega)]
theorem flows_all {m : Machine} (h : m.gates.length ≤ 64) (l : List Nat) : flows 64 m 0 l = flows m.gates.length m 0 l := by
  have := flows_more (m := m) m.gates.length (64 - m.gates.length) 0 l (by omega)
  rw [show m.gates.length + (64 - m.gates.length) = 64 by omega] at this
  exact this
theorem stepK_len (m : Machine) (k : Nat) (l : List Nat) : (stepK m k l).length = l.length := by unfold stepK; rw [add_len, add_len]
theorem flows_len (m : Machine) : ∀ (f k : Nat) (l : List Nat), (flows f m k l).length = l.length
  | 0, _, _ => rfl
  | f + 1, k, l => by
    by_cases hk : m.gates.length ≤ k
    · rw [flows_stop m l _ k hk]
    · rw [flows_head (by omega), flows_len m f, stepK_len]
/-- what stands at gates up to k stays -/
theorem stepK_keep {m : Machine} (h : Rt m) {k : Nat} (hk : k < m.gates.length) (l : List Nat) {j : Nat} (hj : j ≤ k) : (stepK m k l).getD j 0 = l.getD j 0 := by
  have e : m.gates[k]? = some m.gates[k] := List.getElem?_eq_getElem hk
  obtain ⟨_, _, h3, h4⟩ := h.g k _ e
  have hn := h.n
  unfold stepK
  rw [gate_of e, add_get, if_neg (by omega), add_get, if_neg (by omega)]

/-! ### the gates behind i of them -/
def tiltTo (l : List Nat) (i : Nat) (gs : List Gate) : List Gate := gs.mapIdx fun k g => if k < i ∧ g.kind = 0 ∧ l.getD k 0 % 2 = 1 then turned g else g
theorem tiltTo_get (l : List Nat) (i : Nat) (gs : List Gate) (k : Nat) : (tiltTo l i gs)[k]? = (gs[k]?).map fun g => if k < i ∧ g.kind = 0 ∧ l.getD k 0 % 2 = 1 then turned g else g := by
  unfold tiltTo; rw [List.getElem?_mapIdx]
theorem settled_get (l : List Nat) : ∀ (gs : List Gate) (k0 k : Nat), (settled l k0 gs)[k]? = (gs[k]?).map fun g => if g.kind = 0 ∧ l.getD (k0 + k) 0 % 2 = 1 then turned g else g
  | [], k0, k => by simp [settled]
  | g :: gs, k0, 0 => by simp [settled]
  | g :: gs, k0, k + 1 => by
    show (settled l (k0 + 1) gs)[k]? = (gs[k]?).map _
    rw [settled_get l gs (k0 + 1) k, show k0 + 1 + k = k0 + (k + 1) by omega]
theorem tiltTo_zero (l : List Nat) (gs : List Gate) : tiltTo l 0 gs = gs := by
  apply List.ext_getElem?
  intro k
  rw [tiltTo_get]
  cases gs[k]? with
  | none => rfl
  | some g => simp
theorem tiltTo_all (l : List Nat) (gs : List Gate) : tiltTo l gs.length gs = settled l 0 gs := by
  apply List.ext_getElem?
  intro k
  rw [tiltTo_get, settled_get]
  by_cases h : k < gs.length
  · rw [List.getElem?_eq_getElem h]
    simp [h]
  · rw [List.getElem?_eq_none (by omega)]; rfl
theorem tiltTo_at (l : List Nat) {i k : Nat} {gs : List Gate} (h : i ≤ k) : (tiltTo l i gs)[k]? = gs[k]? := by
  rw [tiltTo_get]
  cases gs[k]? with
  | none => rfl
  | some g =>
    show some (if _ then _ else _) = some g
    rw [if_neg (by omega)]
/-- one gate more -/
theorem tiltTo_step {m : Machine} {l l' : List Nat} {i : Nat} {g : Gate} (hg : m.gates[i]? = some g) (hk : g.kind ≤ 1) (hl : ∀ j, j ≤ i → l'.getD j 0 = l.getD j 0) :
    ({ m with gates := tiltTo l' (i + 1) m.gates } : Machine) = if l.getD i 0 % 2 = 1 then passed { m with gates := tiltTo l i m.gates } i else { m with gates := tiltTo l i m.gates } := by
  have hi : ({ m with gates := tiltTo l i m.gates } : Machine).gates[i]? = some g := by
    show (tiltTo l i m.gates)[i]? = some g
    rw [tiltTo_at l (Nat.le_refl i)]; exact hg
  have same : ∀ k, k ≠ i → (tiltTo l' (i + 1) m.gates)[k]? = (tiltTo l i m.gates)[k]? := fun k hki => by
    rw [tiltTo_get, tiltTo_get]
    by_cases h : k < i
    · rw [hl k (by omega)]
      have : (k < i + 1) = (k < i) := by simp; omega
      simp only [this]
    · have : ¬ k < i + 1 := by omega
      simp only [this, h, false_and, if_false]
  have here : (tiltTo l' (i + 1) m.gates)[i]? = some (if g.kind = 0 ∧ l.getD i 0 % 2 = 1 then turned g else g) := by
    rw [tiltTo_get, hg, hl i (Nat.le_refl i)]
    simp
  have key : tiltTo l' (i + 1) m.gates = if l.getD i 0 % 2 = 1 then (passed { m with gates := tiltTo l i m.gates } i).gates else tiltTo l i m.gates := by
    apply List.ext_getElem?
    intro k
    by_cases hk2 : k = i
    · subst hk2
      rw [here]
      by_cases ho : l.getD k 0 % 2 = 1
      · rw [if_pos ho]
        unfold passed
        rw [gate_of hi]
        have : g.kind = 0 ∨ g.kind = 1 := by omega
        rcases this with z | z
        · simp only [z]
          rw [List.getElem?_set_self (by exact (List.getElem?_eq_some_iff.mp hi).1), if_pos ⟨trivial, ho⟩]
        · simp only [z]
          rw [if_neg (by omega)]
          exact hi.symm
      · rw [if_neg ho, if_neg (by omega)]
        exact hi.symm
    · rw [same k hk2]
      by_cases ho : l.getD i 0 % 2 = 1
      · rw [if_pos ho]
        unfold passed
        rw [gate_of hi]
        have : g.kind = 0 ∨ g.kind = 1 := by omega
        rcases this with z | z
        · simp only [z]
          rw [List.getElem?_set_ne (Ne.symm hk2)]
        · simp only [z]
      · rw [if_neg ho]
  rw [key]
  split
  · have e := passed_flip hi
    rw [e]
  · rfl
/-- how many go on the side that the gate leads to first -/
theorem stepK_ahead {m : Machine} {k : Nat} {g : Gate} (hg : m.gates[k]? = some g) (ht : g.tilt ≤ 1) (hk : g.kind ≤ 1) (l : List Nat) (a : Nat) (ha : a = if g.kind = 1 then l.getD k 0 else (l.getD k 0 + 1) / 2) :
    stepK m k l = add (add l (if g.tilt = 0 then g.left else g.right) a) (if g.tilt = 0 then g.right else g.left) (l.getD k 0 - a) := by
  unfold stepK lefts
  rw [gate_of hg]
  have hk' : g.kind = 0 ∨ g.kind = 1 := by omega
  have ht' : g.tilt = 0 ∨ g.tilt = 1 := by omega
  rcases hk' with z | z <;> rcases ht' with y | y <;> simp only [z, y] at ha ⊢ <;> simp at ha ⊢ <;> subst ha
  · rfl
  · rw [add_comm]
    congr 1
    · congr 1
      omega
    · omega
  · rw [Nat.sub_self]
  · rw [add_comm, Nat.sub_self]

/-! ### a run -/
theorem run_stop (f : Nat) (m : Machine) (l : List Nat) : run f m 4 l = (m, l, 4) := by
  cases f with
  | zero => rfl
  | succ f => rfl
theorem run_go {f : Nat} {m : Machine} {e : Nat} {l : List Nat} (h : e ≤ 3) : run (f + 1) m e l = run f (Klm.drop m e).1 ((Klm.drop m e).1.levers.getD (Klm.drop m e).2 4) (add l (Klm.drop m e).2 1) := by
  show (if 4 ≤ e then (m, l, 4) else _) = _
  rw [if_neg (by omega)]
theorem foldl_sum : ∀ (l : List Nat) (a : Nat), l.foldl (· + ·) a = a + l.sum
  | [], a => by simp
  | x :: l, a => by
    rw [List.foldl_cons, foldl_sum l, List.sum_cons]; omega
theorem add_sum : ∀ (l : List Nat) (k v : Nat), k < l.length → (add l k v).sum = l.sum + v
  | [], k, v, h => by simp at h
  | x :: l, 0, v, h => by
    show ((x + v) :: l).sum = (x :: l).sum + v
    rw [List.sum_cons, List.sum_cons]; omega
  | x :: l, k + 1, v, h => by
    have ih := add_sum l k v (by simpa using h)
    show (x :: l.set k (l.getD k 0 + v)).sum = (x :: l).sum + v
    unfold add at ih
    rw [List.sum_cons, List.sum_cons, ih]; omega
/-! ### back: by 64 there is one -/
theorem lefts_dvd {g : Gate} {v d : Nat} (h : 2 * d ∣ v) : d ∣ lefts g v ∧ d ∣ v - lefts g v := by
  obtain ⟨q, rfl⟩ := h
  have e1 : (2 * d * q + 1) / 2 = d * q := by
    rw [Nat.mul_assoc]; omega
  have e2 : 2 * d * q / 2 = d * q := by
    rw [Nat.mul_assoc]; omega
  have e3 : 2 * d * q - d * q = d * q := by
    rw [Nat.mul_assoc]; omega
  have e4 : d ∣ 2 * d * q := ⟨2 * q, by rw [Nat.mul_comm 2 d, Nat.mul_assoc]⟩
  unfold lefts
  split
  · split
    · rw [e1, e3]; exact ⟨⟨q, rfl⟩, ⟨q, rfl⟩⟩
    · rw [e2, e3]; exact ⟨⟨q, rfl⟩, ⟨q, rfl⟩⟩
  · split
    · rw [Nat.sub_self]; exact ⟨e4, ⟨0, rfl⟩⟩
    · exact ⟨⟨0, rfl⟩, e4⟩
theorem flows_dvd {m : Machine} {l : List Nat} {d : Nat} : ∀ (i : Nat), i ≤ m.gates.length → (∀ j, 2 ^ (d + i) ∣ l.getD j 0) → (∀ j, 2 ^ d ∣ (flows i m 0 l).getD j 0)
  | 0, _, h, j => h j
  | i + 1, hi, h, j => by
    have ih := flows_dvd (m := m) (l := l) (d := d + 1) i (by omega) fun j => by rw [show d + 1 + i = d + (i + 1) by omega]; exact h j
    have e := flows_last (m := m) i 0 l (by omega)
    rw [Nat.zero_add] at e
    have e2 : 2 ^ d ∣ 2 ^ (d + 1) := ⟨2, by rw [Nat.pow_succ]⟩
    have hv := lefts_dvd (g := gate m i) (d := 2 ^ d) (by rw [Nat.mul_comm, ← Nat.pow_succ]; exact ih i)
    rw [e]
    unfold stepK
    rw [add_get, add_len, add_get, add_get]
    have a1 : ∀ j, 2 ^ d ∣ (flows i m 0 l).getD j 0 := fun j => Nat.dvd_trans e2 (ih j)
    split
    · split
      · exact Nat.dvd_add (Nat.dvd_add (a1 _) hv.1) hv.2
      · exact Nat.dvd_add (a1 _) hv.2
    · split
      · exact Nat.dvd_add (a1 _) hv.1
      · exact a1 j
theorem flows_keep {m : Machine} (h : Rt m) {l : List Nat} {k : Nat} : ∀ (i : Nat), k < i → i ≤ m.gates.length → (flows i m 0 l).getD k 0 = (flows (k + 1) m 0 l).getD k 0
  | 0, h1, _ => by omega
  | i + 1, h1, h2 => by
    by_cases e : k = i
    · subst e; rfl
    · have ih := flows_keep h (l := l) (k := k) i (by omega) (by omega)
      have e2 := flows_last (m := m) i 0 l (by omega)
      rw [Nat.zero_add] at e2
      rw [e2, stepK_keep h (by omega) _ (by omega), ih]
/-- what a gate has seen when its turn comes is what it has at the end -/
theorem flows_here {m : Machine} (h : Rt m) {l : List Nat} {k : Nat} (hk : k < m.gates.length) : (flows m.gates.length m 0 l).getD k 0 = (flows k m 0 l).getD k 0 := by
  rw [flows_keep h m.gates.length hk (Nat.le_refl _)]
  have e2 := flows_last (m := m) k 0 l (by omega)
  rw [Nat.zero_add] at e2
  rw [e2, stepK_keep h hk _ (Nat.le_refl _)]
theorem start_get (w c j : Nat) (hw : w < 80) : (add (List.replicate 80 0) w c).getD j 0 = if j = w then c else 0 := by
  rw [add_get, List.length_replicate]
  have z : ∀ i, (List.replicate 80 0).getD i 0 = 0 := fun i => by
    rw [List.getD_eq_getElem?_getD, List.getElem?_replicate]
    split <;> rfl
  by_cases e : j = w
  · rw [if_pos ⟨e, hw⟩, if_pos e, z, Nat.zero_add]
  · rw [if_neg (by omega), if_neg e, z]
theorem back_64 {m : Machine} (h : Rt m) {e : Nat} (he : e ≤ 3) : back m e (2 ^ 64) = true := by
  obtain ⟨w, _, e2, p⟩ := entry_at h he
  have hn := h.n
  have hw : w < 80 := by unfold Pl at p; omega
  unfold back visits
  rw [e2, flows_all h.n]
  simp only [List.all_eq_true, List.mem_range]
  intro k hk
  rw [flows_here h hk]
  have d := flows_dvd (m := m) (l := add (List.replicate 80 0) w (2 ^ 64)) (d := 1) k (by omega) (fun j => by
    rw [start_get _ _ _ hw]
    split
    · exact Nat.pow_dvd_pow 2 (by omega)
    · exact ⟨0, rfl⟩) k
  have : (flows k m 0 (add (List.replicate 80 0) w (2 ^ 64))).getD k 0 % 2 = 0 := Nat.mod_eq_zero_of_dvd (by simpa using d)
  rw [this]
  simp
end Mg
/-! Marbles: how the list of calls is read, and played. -/
namespace Mg
open Klm

theorem whole_id (c : List (List Int)) : PyKlm.whole c = c := by
  unfold PyKlm.whole
  split <;> rfl
theorem map_whole (cs : List (List (List Int))) : cs.map PyKlm.whole = cs := by
  have : PyKlm.whole = id := funext whole_id
  rw [this, List.map_id]

/-! ### rows -/
theorem row_of {l : List Int} {x t : List Int} (h : PyFlat.row l = some (x, t)) : l = (x.length : Int) :: (x ++ t) := by
  cases l with
  | nil => simp [PyFlat.row] at h
  | cons n r =>
    have h : (if 0 ≤ n ∧ n.toNat ≤ r.length then some (r.take n.toNat, r.drop n.toNat) else none) = some (x, t) := h
    by_cases hc : 0 ≤ n ∧ n.toNat ≤ r.length
    · rw [if_pos hc, Option.some.injEq, Prod.mk.injEq] at h
      obtain ⟨rfl, rfl⟩ := h
      rw [List.take_append_drop, List.length_take, Nat.min_eq_left hc.2]
      congr 1
      omega
    · rw [if_neg hc] at h
      cases h
theorem rows_zero {l : List Int} {xs : List (List Int)} {t : List Int} (h : PyFlat.rows 0 l = some (xs, t)) : xs = [] ∧ t = l := by
  simp only [PyFlat.rows, Option.some.injEq, Prod.mk.injEq] at h
  exact ⟨h.1.symm, h.2.symm⟩
theorem rows_succ {k : Nat} {l : List Int} {xs : List (List Int)} {t : List Int} (h : PyFlat.rows (k + 1) l = some (xs, t)) :
    ∃ x ys s, xs = x :: ys ∧ l = (x.length : Int) :: (x ++ s) ∧ PyFlat.rows k s = some (ys, t) := by
  unfold PyFlat.rows at h
  split at h
  · cases h
  · rename_i x s e
    split at h
    · cases h
    · rename_i ys t' e2
      simp only [Option.some.injEq, Prod.mk.injEq] at h
      obtain ⟨rfl, rfl⟩ := h
      exact ⟨x, ys, s, rfl, row_of e, e2⟩

/-- one call as it stands in the list, what is behind it -/
inductive Stands : List Int → List (List Int) → List Int → Prop
  | build (g e v t : List Int) : Stands (0 :: (g.length : Int) :: (g ++ (e.length : Int) :: (e ++ (v.length : Int) :: (v ++ t)))) [[0], g, e, v] t
  | drop (e : Int) (t : List Int) : Stands (1 :: e :: t) [[1, e]] t
  | many (e c : Int) (t : List Int) : Stands (2 :: e :: c :: t) [[2, e, c]] t
  | run (e n : Int) (t : List Int) : Stands (3 :: e :: n :: t) [[3, e, n]] t
  | back (e : Int) (t : List Int) : Stands (4 :: e :: t) [[4, e]] t
  | tilt (k b : Int) (t : List Int) : Stands (5 :: k :: b :: t) [[5, k, b]] t
  | state (t : List Int) : Stands (6 :: t) [[6]] t
theorem call_of {l : List Int} {c : List (List Int)} {t : List Int} (h : PyFlat.call PyKlm.shape l = some (c, t)) : Stands l c t := by
  cases l with
  | nil => simp [PyFlat.call] at h
  | cons p r =>
    cases e : PyKlm.shape p with
    | none => simp [PyFlat.call, e] at h
    | some nk =>
      obtain ⟨n, k⟩ := nk
      by_cases hn : r.length < n
      · simp [PyFlat.call, e, hn] at h
      · cases e2 : PyFlat.rows k (r.drop n) with
        | none => simp [PyFlat.call, e, hn, e2] at h
        | some xt =>
          obtain ⟨xs, t'⟩ := xt
          simp only [PyFlat.call, e, hn, e2, if_false, Option.some.injEq, Prod.mk.injEq] at h
          obtain ⟨rfl, rfl⟩ := h
          have one : ∀ {r : List Int}, ¬ r.length < 1 → ∃ a s, r = a :: s := fun {r} h => by
            cases r with
            | nil => simp at h
            | cons a s => exact ⟨a, s, rfl⟩
          have two : ∀ {r : List Int}, ¬ r.length < 2 → ∃ a b s, r = a :: b :: s := fun {r} h => by
            cases r with
            | nil => simp at h
            | cons a s =>
              cases s with
              | nil => simp at h
              | cons b s => exact ⟨a, b, s, rfl⟩
          unfold PyKlm.shape at e
          by_cases h0 : p = 0
          · subst h0
            simp only [if_true, Option.some.injEq, Prod.mk.injEq] at e
            obtain ⟨rfl, rfl⟩ := e
            rw [List.drop_zero] at e2
            obtain ⟨x, ys, s, rfl, rfl, e3⟩ := rows_succ e2
            obtain ⟨y, zs, s2, rfl, rfl, e4⟩ := rows_succ e3
            obtain ⟨z, ws, s3, rfl, rfl, e5⟩ := rows_succ e4
            obtain ⟨rfl, rfl⟩ := rows_zero e5
            exact .build x y z _
          rw [if_neg h0] at e
          by_cases h1 : p = 1
          · subst h1
            simp only [if_true, Option.some.injEq, Prod.mk.injEq] at e
            obtain ⟨rfl, rfl⟩ := e
            obtain ⟨rfl, rfl⟩ := rows_zero e2
            obtain ⟨a, s, rfl⟩ := one hn
            exact .drop a s
          rw [if_neg h1] at e
          by_cases h1 : p = 2
          · subst h1
            simp only [if_true, Option.some.injEq, Prod.mk.injEq] at e
            obtain ⟨rfl, rfl⟩ := e
            obtain ⟨rfl, rfl⟩ := rows_zero e2
            obtain ⟨a, b, s, rfl⟩ := two hn
            exact .many a b s
          rw [if_neg h1] at e
          by_cases h1 : p = 3
          · subst h1
            simp only [if_true, Option.some.injEq, Prod.mk.injEq] at e
            obtain ⟨rfl, rfl⟩ := e
            obtain ⟨rfl, rfl⟩ := rows_zero e2
            obtain ⟨a, b, s, rfl⟩ := two hn
            exact .run a b s
          rw [if_neg h1] at e
          by_cases h1 : p = 4
          · subst h1
            simp only [if_true, Option.some.injEq, Prod.mk.injEq] at e
            obtain ⟨rfl, rfl⟩ := e
            obtain ⟨rfl, rfl⟩ := rows_zero e2
            obtain ⟨a, s, rfl⟩ := one hn
            exact .back a s
          rw [if_neg h1] at e
          by_cases h1 : p = 5
          · subst h1
            simp only [if_true, Option.some.injEq, Prod.mk.injEq] at e
            obtain ⟨rfl, rfl⟩ := e
            obtain ⟨rfl, rfl⟩ := rows_zero e2
            obtain ⟨a, b, s, rfl⟩ := two hn
            exact .tilt a b s
          rw [if_neg h1] at e
          by_cases h1 : p = 6
          · subst h1
            simp only [if_true, Option.some.injEq, Prod.mk.injEq] at e
            obtain ⟨rfl, rfl⟩ := e
            obtain ⟨rfl, rfl⟩ := rows_zero e2
            exact .state _
          rw [if_neg h1] at e
          cases e
theorem calls_nil {f : Nat} {cs : List (List (List Int))} (h : PyFlat.calls PyKlm.shape f [] = some cs) : cs = [] := by
  cases f <;> simp [PyFlat.calls] at h <;> exact h
theorem calls_cons {f : Nat} {p : Int} {r : List Int} {cs : List (List (List Int))} (h : PyFlat.calls PyKlm.shape f (p :: r) = some cs) :
    ∃ c ds t g, cs = c :: ds ∧ Stands (p :: r) c t ∧ PyFlat.calls PyKlm.shape g t = some ds := by
  cases f with
  | zero => simp [PyFlat.calls] at h
  | succ f =>
    unfold PyFlat.calls at h
    split at h
    · cases h
    · rename_i c t e
      split at h
      · cases h
      · rename_i ds e2
        simp only [Option.some.injEq] at h
        exact ⟨c, ds, t, f, h.symm, call_of e, e2⟩
theorem Stands.len {l : List Int} {c : List (List Int)} {t : List Int} (h : Stands l c t) : t.length < l.length := by
  cases h <;> simp <;> omega

/-! ### the calls that are due -/
/-- the calls of a list from a state on -/
structure Due (s : KlmNeutral.S) (l : List Int) (cs : List (List (List Int))) : Prop where
  rd : ∃ f, PyFlat.calls PyKlm.shape f l = some cs
  as : cs.all KlmNeutral.asked1 = true
  may : KlmNeutral.may s cs = true
theorem due_of {l : List Int} (h : PyKlm.answers_asked l = true) : ∃ cs, Due KlmNeutral.start l cs ∧ cs.length ≤ 4000 ∧ PyKlm.answers l = PyFlat.told (PyFlat.played KlmNeutral.step KlmNeutral.start cs) := by
  unfold PyKlm.answers_asked at h
  unfold PyKlm.answers
  unfold PyKlm.calls at h ⊢
  cases e : PyFlat.calls PyKlm.shape l.length l with
  | none => rw [e] at h; cases h
  | some cs =>
    rw [e] at h
    simp only [map_whole] at h ⊢
    unfold PyFlat.atMost KlmNeutral.asked at h
    simp only [Bool.and_eq_true, decide_eq_true_eq] at h
    exact ⟨cs, ⟨⟨_, e⟩, h.2.1.2, h.2.2⟩, h.1, rfl⟩
theorem Due.nil {s : KlmNeutral.S} {cs : List (List (List Int))} (h : Due s [] cs) : cs = [] := by
  obtain ⟨f, e⟩ := h.rd
  exact calls_nil e
theorem Due.cons {s : KlmNeutral.S} {p : Int} {r : List Int} {cs : List (List (List Int))} (h : Due s (p :: r) cs) :
    ∃ c ds t, cs = c :: ds ∧ Stands (p :: r) c t ∧ KlmNeutral.asked1 c = true ∧ (KlmNeutral.step s c).2 ≠ [] ∧ Due (KlmNeutral.step s c).1 t ds := by
  obtain ⟨f, e⟩ := h.rd
  obtain ⟨c, ds, t, g, rfl, st, e2⟩ := calls_cons e
  have a := h.as
  have m := h.may
  rw [List.all_cons, Bool.and_eq_true] at a
  unfold KlmNeutral.may at m
  rw [Bool.and_eq_true] at m
  refine ⟨c, ds, t, rfl, st, a.1, fun z => ?_, ⟨⟨g, e2⟩, a.2, m.2⟩⟩
  rw [z] at m
  simp at m
theorem told_cons (a : List Int) (l : List (List Int)) : PyFlat.told (a :: l) = ((a.length : Int) :: a) ++ PyFlat.told l := by
  unfold PyFlat.told; rw [List.flatMap_cons]
theorem played_cons (s : KlmNeutral.S) (c : List (List Int)) (r : List (List (List Int))) :
    PyFlat.played KlmNeutral.step s (c :: r) = (KlmNeutral.step s c).2 :: PyFlat.played KlmNeutral.step (KlmNeutral.step s c).1 r := rfl

/-! ### what is asked of one call -/
theorem natural_of {z : Int} {b : Nat} (h : KlmNeutral.natural z b = true) : 0 ≤ z ∧ z < 2 ^ b := by
  unfold KlmNeutral.natural at h
  simpa using h
theorem asked_build {g e v : List Int} (h : KlmNeutral.asked1 [[0], g, e, v] = true) :
    (∀ z ∈ g, 0 ≤ z ∧ z < 256) ∧ g.length % 4 = 0 ∧ g.length ≤ 512 ∧ (∀ z ∈ e, 0 ≤ z ∧ z < 256) ∧ e.length = 4 ∧ (∀ z ∈ v, 0 ≤ z ∧ z < 256) ∧ v.length = 16 := by
  unfold KlmNeutral.asked1 at h
  simp only [Bool.and_eq_true, List.all_eq_true, decide_eq_true_eq] at h
  exact ⟨fun z hz => natural_of (h.1.1 z hz), h.1.2.1, h.1.2.2, fun z hz => natural_of (h.2.1.1 z hz), h.2.1.2, fun z hz => natural_of (h.2.2.1 z hz), h.2.2.2⟩
theorem asked_one {p e : Int} (hp : p = 1 ∨ p = 4) (h : KlmNeutral.asked1 [[p, e]] = true) : 0 ≤ e ∧ e < 4294967296 := by
  rcases hp with rfl | rfl <;> exact natural_of h
theorem asked_many {e c : Int} (h : KlmNeutral.asked1 [[2, e, c]] = true) : (0 ≤ e ∧ e < 4294967296) ∧ 0 ≤ c ∧ c < 18446744073709551616 := by
  have h : (KlmNeutral.natural e 32 && KlmNeutral.natural c 64) = true := h
  rw [Bool.and_eq_true] at h
  exact ⟨natural_of h.1, natural_of h.2⟩
theorem asked_two {p e c : Int} (hp : p = 3 ∨ p = 5) (h : KlmNeutral.asked1 [[p, e, c]] = true) : (0 ≤ e ∧ e < 4294967296) ∧ 0 ≤ c ∧ c < 4294967296 := by
  have h : (KlmNeutral.natural e 32 && KlmNeutral.natural c 32) = true := by rcases hp with rfl | rfl <;> exact h
  rw [Bool.and_eq_true] at h
  exact ⟨natural_of h.1, natural_of h.2⟩
/-- ahead of a machine there are builds alone -/
theorem step_none {c : List (List Int)} (h : (KlmNeutral.step none c).2 ≠ []) : ∃ g e v, c = [[0], g, e, v] := by
  unfold KlmNeutral.step at h
  unfold KlmNeutral.callOf at h
  split at h
  · exact absurd rfl h
  · rename_i q
    split at q <;> first | exact ⟨_, _, _, rfl⟩ | (simp [Klm.acts] at q)
/-! ### what each call does -/
theorem step_build (s : KlmNeutral.S) (g e v : List Int) : KlmNeutral.step s [[0], g, e, v] =
    if right ⟨KlmNeutral.gatesOf g, KlmNeutral.natsOf e, KlmNeutral.natsOf v⟩ then (some ⟨KlmNeutral.gatesOf g, KlmNeutral.natsOf e, KlmNeutral.natsOf v⟩, [0]) else (s, [-22]) := by
  by_cases h : right ⟨KlmNeutral.gatesOf g, KlmNeutral.natsOf e, KlmNeutral.natsOf v⟩ = true <;> simp [KlmNeutral.step, KlmNeutral.callOf, Klm.acts, h, KlmNeutral.ints, say]
theorem step_drop (m : Machine) (e : Int) : KlmNeutral.step (some m) [[1, e]] = if 3 < e.toNat then (some m, [-22]) else (some (Klm.drop m e.toNat).1, [((Klm.drop m e.toNat).2 : Int)]) := by
  by_cases h : 3 < e.toNat <;> simp [KlmNeutral.step, KlmNeutral.callOf, Klm.acts, h, KlmNeutral.ints, say]
theorem step_many (m : Machine) (e c : Int) : KlmNeutral.step (some m) [[2, e, c]] =
    if 3 < e.toNat then (some m, [-22]) else if geared m then (some m, [-33]) else (some (Klm.many m e.toNat c.toNat).1, 0 :: KlmNeutral.ints (Klm.many m e.toNat c.toNat).2) := by
  by_cases h : 3 < e.toNat
  · simp [KlmNeutral.step, KlmNeutral.callOf, Klm.acts, h, KlmNeutral.ints, say]
  · by_cases h2 : geared m = true <;> simp [KlmNeutral.step, KlmNeutral.callOf, Klm.acts, h, h2, KlmNeutral.ints, say]
theorem step_run (m : Machine) (e n : Int) : KlmNeutral.step (some m) [[3, e, n]] =
    if 3 < e.toNat ∨ n.toNat < 1 ∨ 10000 < n.toNat then (some m, [-22]) else (some (Klm.run n.toNat m e.toNat (List.replicate 16 0)).1,
      (((Klm.run n.toNat m e.toNat (List.replicate 16 0)).2.1.foldl (· + ·) 0 : Nat) : Int) :: KlmNeutral.ints ((Klm.run n.toNat m e.toNat (List.replicate 16 0)).2.1 ++ [(Klm.run n.toNat m e.toNat (List.replicate 16 0)).2.2])) := by
  by_cases h : 3 < e.toNat ∨ n.toNat < 1 ∨ 10000 < n.toNat
  · simp only [KlmNeutral.step, KlmNeutral.callOf, Klm.acts, Option.bind_some, Option.map_some]
    rw [if_pos h, if_pos h]; rfl
  · simp only [KlmNeutral.step, KlmNeutral.callOf, Klm.acts, Option.bind_some, Option.map_some]
    rw [if_neg h, if_neg h]
theorem step_back (m : Machine) (e : Int) : KlmNeutral.step (some m) [[4, e]] =
    if 3 < e.toNat then (some m, [-22]) else if geared m then (some m, [-33]) else (some m, match (List.range 65).find? fun j => back m e.toNat (2 ^ j) with | some j => [(j : Int)] | none => [-34]) := by
  by_cases h : 3 < e.toNat
  · simp [KlmNeutral.step, KlmNeutral.callOf, Klm.acts, h, KlmNeutral.ints, say]
  · by_cases h2 : geared m = true
    · simp [KlmNeutral.step, KlmNeutral.callOf, Klm.acts, h, h2, KlmNeutral.ints, say]
    · simp only [KlmNeutral.step, KlmNeutral.callOf, Klm.acts, Option.bind_some, Option.map_some]
      rw [if_neg h, if_neg h2, if_neg h, if_neg h2]
      cases (List.range 65).find? fun j => back m e.toNat (2 ^ j) <;> rfl
theorem step_tilt (m : Machine) (k t : Int) : KlmNeutral.step (some m) [[5, k, t]] =
    if m.gates.length ≤ k.toNat ∨ 1 < t.toNat then (some m, [-22]) else (some { m with gates := m.gates.set k.toNat { gate m k.toNat with tilt := t.toNat } }, [((gate m k.toNat).tilt : Int)]) := by
  by_cases h : m.gates.length ≤ k.toNat ∨ 1 < t.toNat
  · simp only [KlmNeutral.step, KlmNeutral.callOf, Klm.acts, Option.bind_some, Option.map_some]
    rw [if_pos h, if_pos h]; rfl
  · simp only [KlmNeutral.step, KlmNeutral.callOf, Klm.acts, Option.bind_some, Option.map_some]
    rw [if_neg h, if_neg h]; rfl
theorem step_state (m : Machine) : KlmNeutral.step (some m) [[6]] = (some m, [(m.gates.length : Int), (bits m.gates : Int)]) := rfl
end Mg
/-! Marbles: a build's numbers, four by four, and what is_machine asks of them. -/
namespace Mg
open Klm
def exB (z : Int) : Bool := decide (64 ≤ z) && decide (z < 80)
def plB (z f n : Int) : Bool := (decide (f ≤ z) && decide (z < n)) || exB z
def gtB (a b c d i n : Int) : Bool := decide (a ≤ 9) && (decide (b ≤ 1) && (plB c (i + 1) n && plB d (i + 1) n))
def quads : List Int → List (List Int)
  | a :: b :: c :: d :: l => [a, b, c, d] :: quads l
  | _ => []
def toGate (q : List Int) : Gate := ⟨(q.getD 0 0).toNat, (q.getD 1 0).toNat, (q.getD 2 0).toNat, (q.getD 3 0).toNat⟩
theorem gatesOf_quads : ∀ l : List Int, KlmNeutral.gatesOf l = (quads l).map toGate
  | [] => rfl
  | [_] => rfl
  | [_, _] => rfl
  | [_, _, _] => rfl
  | a :: b :: c :: d :: l => by
    show _ :: KlmNeutral.gatesOf l = _ :: (quads l).map toGate
    rw [gatesOf_quads l]; rfl
theorem quads_len : ∀ l : List Int, l.length % 4 = 0 → 4 * (quads l).length = l.length
  | [], _ => rfl
  | [_], h => by simp at h
  | [_, _], h => by simp at h
  | [_, _, _], h => by simp at h
  | a :: b :: c :: d :: l, h => by
    have h : (l.length + 4) % 4 = 0 := h
    have ih := quads_len l (by omega)
    show 4 * ((quads l).length + 1) = l.length + 4
    omega
theorem quads_get : ∀ (l : List Int) (i : Nat), l.length % 4 = 0 → i < (quads l).length → (quads l)[i]? = some ((l.drop (4 * i)).take 4)
  | [], i, _, hi => by simp [quads] at hi
  | [_], _, h, _ => by simp at h
  | [_, _], _, h, _ => by simp at h
  | [_, _, _], _, h, _ => by simp at h
  | a :: b :: c :: d :: l, 0, h, hi => rfl
  | a :: b :: c :: d :: l, i + 1, h, hi => by
    have h : (l.length + 4) % 4 = 0 := h
    have hi : i + 1 < (quads l).length + 1 := hi
    have ih := quads_get l i (by omega) (by omega)
    show (quads l)[i]? = _
    rw [ih, show 4 * (i + 1) = 4 * i + 4 by omega]
    rfl
theorem quads_mem : ∀ (l : List Int) {q : List Int}, q ∈ quads l → ∃ a b c d, q = [a, b, c, d] ∧ a ∈ l ∧ b ∈ l ∧ c ∈ l ∧ d ∈ l
  | [], _, h => by simp [quads] at h
  | [_], _, h => by simp [quads] at h
  | [_, _], _, h => by simp [quads] at h
  | [_, _, _], _, h => by simp [quads] at h
  | a :: b :: c :: d :: l, q, h => by
    have h : q ∈ [a, b, c, d] :: quads l := h
    rcases List.mem_cons.mp h with e | h
    · exact ⟨a, b, c, d, e, by simp, by simp, by simp, by simp⟩
    · obtain ⟨a', b', c', d', e, h1, h2, h3, h4⟩ := quads_mem l h
      exact ⟨a', b', c', d', e, by simp [h1], by simp [h2], by simp [h3], by simp [h4]⟩
/-- the rows of a build: four whole numbers from 0 on -/
def Qs (qs : List (List Int)) : Prop := ∀ q ∈ qs, ∃ a b c d, q = [a, b, c, d] ∧ (0 ≤ a ∧ a < 256) ∧ (0 ≤ b ∧ b < 256) ∧ (0 ≤ c ∧ c < 256) ∧ (0 ≤ d ∧ d < 256)
theorem quads_qs {l : List Int} (h : ∀ z ∈ l, 0 ≤ z ∧ z < 256) : Qs (quads l) := fun q hq => by
  obtain ⟨a, b, c, d, e, h1, h2, h3, h4⟩ := quads_mem l hq
  exact ⟨a, b, c, d, e, h a h1, h b h2, h c h3, h d h4⟩
theorem Qs.at {qs : List (List Int)} (h : Qs qs) {i : Nat} {q : List Int} (e : qs[i]? = some q) : ∃ a b c d, q = [a, b, c, d] ∧ (0 ≤ a ∧ a < 256) ∧ (0 ≤ b ∧ b < 256) ∧ (0 ≤ c ∧ c < 256) ∧ (0 ≤ d ∧ d < 256) := h q (List.mem_of_getElem? e)
theorem okGates_iff : ∀ (n k : Nat) (gs : List Gate), okGates n k gs = true ↔ ∀ (i : Nat) (g : Gate), gs[i]? = some g → okGate n (k + i) g = true
  | n, k, [] => by simp [okGates]
  | n, k, g :: gs => by
    constructor
    · intro h i g' e
      exact okGates_at h e
    · intro h
      show (okGate n k g && okGates n (k + 1) gs) = true
      rw [Bool.and_eq_true]
      refine ⟨h 0 g rfl, (okGates_iff n (k + 1) gs).mpr fun i g' e => ?_⟩
      have := h (i + 1) g' e
      rw [show k + (i + 1) = k + 1 + i by omega] at this
      exact this
theorem pl_way {z : Int} {k n : Nat} (h : 0 ≤ z) : plB z ((k : Int) + 1) (n : Int) = okWay n k z.toNat := by
  unfold plB exB okWay
  rw [Bool.eq_iff_iff]
  simp only [Bool.or_eq_true, Bool.and_eq_true, decide_eq_true_eq]
  omega
theorem pl_entry {z : Int} {n : Nat} (h : 0 ≤ z) : plB z 0 (n : Int) = okEntry n z.toNat := by
  unfold plB exB okEntry
  rw [Bool.eq_iff_iff]
  simp only [Bool.or_eq_true, Bool.and_eq_true, decide_eq_true_eq]
  omega
theorem gt_gate {a b c d : Int} {k n : Nat} (ha : 0 ≤ a) (hb : 0 ≤ b) (hc : 0 ≤ c) (hd : 0 ≤ d) : gtB a b c d (k : Int) (n : Int) = okGate n k (toGate [a, b, c, d]) := by
  unfold gtB okGate
  rw [pl_way hc, pl_way hd]
  have e1 : decide (a ≤ 9) = decide ((toGate [a, b, c, d]).kind ≤ 9) := by
    show decide (a ≤ 9) = decide (a.toNat ≤ 9)
    rw [Bool.eq_iff_iff]; simp only [decide_eq_true_eq]; omega
  have e2 : decide (b ≤ 1) = decide ((toGate [a, b, c, d]).tilt ≤ 1) := by
    show decide (b ≤ 1) = decide (b.toNat ≤ 1)
    rw [Bool.eq_iff_iff]; simp only [decide_eq_true_eq]; omega
  rw [e1, e2, Bool.and_assoc, Bool.and_assoc]
  rfl
/-- what is_gate says of each row -/
def gtAt (qs : List (List Int)) (i : Nat) : Bool := gtB ((qs.getD i []).getD 0 0) ((qs.getD i []).getD 1 0) ((qs.getD i []).getD 2 0) ((qs.getD i []).getD 3 0) (i : Int) (qs.length : Int)
theorem gtAt_all {qs : List (List Int)} (h : Qs qs) : ((List.range qs.length).map (gtAt qs)).all id = okGates qs.length 0 (qs.map toGate) := by
  rw [Bool.eq_iff_iff, okGates_iff, List.all_eq_true]
  have key : ∀ i q, qs[i]? = some q → gtAt qs i = okGate qs.length i (toGate q) := fun i q e => by
    obtain ⟨a, b, c, d, rfl, ha, hb, hc, hd⟩ := h.at e
    have e2 : qs.getD i [] = [a, b, c, d] := by rw [List.getD_eq_getElem?_getD, e]; rfl
    unfold gtAt
    rw [e2]
    exact gt_gate ha.1 hb.1 hc.1 hd.1
  constructor
  · intro hall i g e
    rw [List.getElem?_map] at e
    obtain ⟨q, hq, rfl⟩ := Option.map_eq_some_iff.mp e
    have hi := (List.getElem?_eq_some_iff.mp hq).1
    have := hall (gtAt qs i) (List.mem_map.mpr ⟨i, List.mem_range.mpr hi, rfl⟩)
    rw [id, key i q hq] at this
    rw [Nat.zero_add]; exact this
  · intro hok b hb
    obtain ⟨i, hi, rfl⟩ := List.mem_map.mp hb
    have hi := List.mem_range.mp hi
    have e : qs[i]? = some qs[i] := List.getElem?_eq_getElem hi
    have := hok i (toGate qs[i]) (by rw [List.getElem?_map, e]; rfl)
    rw [id, key i _ e]
    rw [Nat.zero_add] at this; exact this
theorem ent_all {es : List Int} (h : ∀ z ∈ es, 0 ≤ z) (n : Nat) : (es.map fun z => plB z 0 (n : Int)).all id = (KlmNeutral.natsOf es).all (okEntry n) := by
  unfold KlmNeutral.natsOf
  rw [List.all_map, List.all_map, Bool.eq_iff_iff, List.all_eq_true, List.all_eq_true]
  constructor
  · intro q z hz
    have := q z hz
    show okEntry n z.toNat = true
    rw [← pl_entry (h z hz)]; exact this
  · intro q z hz
    have := q z hz
    show plB z 0 n = true
    rw [pl_entry (h z hz)]; exact this
theorem lev_all {es : List Int} (h : ∀ z ∈ es, 0 ≤ z) : (es.map fun z => decide (z ≤ 4)).all id = (KlmNeutral.natsOf es).all fun e => decide (e ≤ 4) := by
  unfold KlmNeutral.natsOf
  rw [List.all_map, List.all_map, Bool.eq_iff_iff, List.all_eq_true, List.all_eq_true]
  have key : ∀ z, z ∈ es → (decide (z ≤ 4) = true ↔ decide (z.toNat ≤ 4) = true) := fun z hz => by
    have := h z hz
    simp only [decide_eq_true_eq]; omega
  constructor
  · intro q z hz
    exact (key z hz).mp (q z hz)
  · intro q z hz
    exact (key z hz).mpr (q z hz)
/-- the machine that a build tells -/
def mOf (qs : List (List Int)) (es vs : List Int) : Machine := ⟨qs.map toGate, KlmNeutral.natsOf es, KlmNeutral.natsOf vs⟩
theorem right_is {qs : List (List Int)} {es vs : List Int} (h : Qs qs) (he : ∀ z ∈ es, 0 ≤ z) (hv : ∀ z ∈ vs, 0 ≤ z) (hel : es.length = 4) (hvl : vs.length = 16) :
    right (mOf qs es vs) = (decide (qs.length ≤ 64) && (((List.range qs.length).map (gtAt qs)).all id && ((es.map fun z => plB z 0 (qs.length : Int)).all id && (vs.map fun z => decide (z ≤ 4)).all id))) := by
  rw [gtAt_all h, ent_all he, lev_all hv]
  unfold right mOf
  have e1 : (KlmNeutral.natsOf es).length = 4 := by unfold KlmNeutral.natsOf; rw [List.length_map]; exact hel
  have e2 : (KlmNeutral.natsOf vs).length = 16 := by unfold KlmNeutral.natsOf; rw [List.length_map]; exact hvl
  simp only [List.length_map, e1, e2, decide_true, Bool.and_true, Bool.and_assoc]
end Mg
/-! Marbles: the least k of back; a gate tilted by hand; the gates behind a whole flow. -/
namespace Mg
open Klm
/-! ### the lowest bit of a number -/
theorem low_and : ∀ (h q : Nat), (2 ^ h * (2 * q + 1)) &&& (2 ^ h * (2 * q + 1) - 1) = 2 ^ h * (2 * q + 1) - 2 ^ h
  | 0, q => by
    have := bit_and (a := 1) (b := 0) (x := q) (y := q) (by decide) (by decide)
    rw [Nat.and_self] at this
    rw [Nat.pow_zero, Nat.one_mul, show 2 * q + 1 = 1 + 2 * q by omega, show 1 + 2 * q - 1 = 0 + 2 * q by omega, this]
    all_goals omega
  | h + 1, q => by
    have ih := low_and h q
    have pos : 0 < 2 ^ h * (2 * q + 1) := Nat.mul_pos (Nat.two_pow_pos h) (by omega)
    generalize hn : 2 ^ h * (2 * q + 1) = n at ih pos
    have e : 2 ^ (h + 1) * (2 * q + 1) = 2 * n := by rw [← hn, Nat.pow_succ, Nat.mul_comm (2 ^ h) 2, Nat.mul_assoc]
    have := bit_and (a := 0) (b := 1) (x := n) (y := n - 1) (by decide) (by decide)
    rw [ih] at this
    rw [e, Nat.pow_succ, show 2 * n = 0 + 2 * n by omega, show 0 + 2 * n - 1 = 1 + 2 * (n - 1) by omega, this]
    omega
theorem odd_part : ∀ n : Nat, 0 < n → ∃ h q, n = 2 ^ h * (2 * q + 1) := by
  intro n
  induction n using Nat.strongRecOn with
  | _ n ih =>
    intro hn
    by_cases e : n % 2 = 1
    · exact ⟨0, n / 2, by rw [Nat.pow_zero, Nat.one_mul]; omega⟩
    · obtain ⟨h, q, e2⟩ := ih (n / 2) (by omega) (by omega)
      exact ⟨h + 1, q, by rw [Nat.pow_succ, Nat.mul_comm (2 ^ h) 2, Nat.mul_assoc, ← e2]; omega⟩
/-- how often n can be halved -/
def halv (n : Nat) : Nat := (n - (n &&& (n - 1))).log2
theorem low_is {h q : Nat} : 2 ^ h * (2 * q + 1) - ((2 ^ h * (2 * q + 1)) &&& (2 ^ h * (2 * q + 1) - 1)) = 2 ^ h := by
  have l : 2 ^ h ≤ 2 ^ h * (2 * q + 1) := Nat.le_mul_of_pos_right _ (by omega)
  rw [low_and]
  generalize 2 ^ h * (2 * q + 1) = n at l ⊢
  generalize 2 ^ h = p at l ⊢
  omega
theorem halv_is (h q : Nat) : halv (2 ^ h * (2 * q + 1)) = h := by
  unfold halv
  rw [low_is, Nat.log2_two_pow]
theorem low_pos {n : Nat} (hn : 0 < n) : 0 < n - (n &&& (n - 1)) := by
  obtain ⟨h, q, rfl⟩ := odd_part n hn
  rw [low_is]
  exact Nat.two_pow_pos h
theorem halv_dvd {n d : Nat} (hn : 0 < n) : 2 ^ d ∣ n ↔ d ≤ halv n := by
  obtain ⟨h, q, rfl⟩ := odd_part n hn
  rw [halv_is]
  constructor
  · intro hd
    by_cases le : d ≤ h
    · exact le
    · have h1 : 2 ^ (h + 1) ∣ 2 ^ h * (2 * q + 1) := Nat.dvd_trans (Nat.pow_dvd_pow 2 (by omega)) hd
      rw [Nat.pow_succ] at h1
      have h2 := Nat.dvd_of_mul_dvd_mul_left (Nat.two_pow_pos h) h1
      omega
  · intro le
    exact Nat.dvd_trans (Nat.pow_dvd_pow 2 le) ⟨_, rfl⟩
/-! ### c times as many marbles -/
theorem lefts_scale {g : Gate} {c v : Nat} (h : g.kind = 0 → v % 2 = 0) : lefts g (c * v) = c * lefts g v := by
  unfold lefts
  by_cases hk : g.kind = 0
  · rw [if_pos hk, if_pos hk]
    obtain ⟨u, rfl⟩ : ∃ u, v = 2 * u := ⟨v / 2, by have := h hk; omega⟩
    have e : c * (2 * u) = 2 * (c * u) := by rw [← Nat.mul_assoc, Nat.mul_comm c 2, Nat.mul_assoc]
    have e1 : (2 * u + 1) / 2 = u := by omega
    have e2 : 2 * u / 2 = u := by omega
    have e3 : (2 * (c * u) + 1) / 2 = c * u := by omega
    have e4 : 2 * (c * u) / 2 = c * u := by omega
    rw [e, e1, e2, e3, e4]
    split <;> rfl
  · rw [if_neg hk, if_neg hk]
    split
    · rfl
    · rw [Nat.mul_zero]
theorem add_scale {c : Nat} {L l : List Nat} (hl : L.length = l.length) (h : ∀ j, L.getD j 0 = c * l.getD j 0) (k v : Nat) : ∀ j, (add L k (c * v)).getD j 0 = c * (add l k v).getD j 0 := by
  intro j
  rw [add_get, add_get, hl]
  split
  · rw [h, Nat.mul_add]
  · exact h j
theorem stepK_scale {m : Machine} {c k : Nat} {L l : List Nat} (hl : L.length = l.length) (h : ∀ j, L.getD j 0 = c * l.getD j 0) (hk : (gate m k).kind = 0 → l.getD k 0 % 2 = 0) : ∀ j, (stepK m k L).getD j 0 = c * (stepK m k l).getD j 0 := by
  unfold stepK
  rw [h k, lefts_scale hk, ← Nat.mul_sub]
  exact add_scale (by rw [add_len, add_len, hl]) (add_scale hl h _ _) _ _
theorem flows_scale {m : Machine} {c : Nat} {L l : List Nat} (hl : L.length = l.length) (h : ∀ j, L.getD j 0 = c * l.getD j 0) :
    ∀ (i : Nat), i ≤ m.gates.length → (∀ k, k < i → (gate m k).kind = 0 → (flows k m 0 l).getD k 0 % 2 = 0) → ∀ j, (flows i m 0 L).getD j 0 = c * (flows i m 0 l).getD j 0
  | 0, _, _ => h
  | i + 1, hi, he => by
    have ih := flows_scale (m := m) hl h i (by omega) fun k hk => he k (by omega)
    have e1 := flows_last (m := m) i 0 L (by omega)
    have e2 := flows_last (m := m) i 0 l (by omega)
    rw [Nat.zero_add] at e1 e2
    rw [e1, e2]
    exact stepK_scale (by rw [flows_len, flows_len, hl]) ih (he i (by omega))
/-- how many of c marbles come by gate k -/
def vis (m : Machine) (w c k : Nat) : Nat := (flows k m 0 (add (List.replicate 80 0) w c)).getD k 0
theorem vis_end {m : Machine} (h : Rt m) {w c k : Nat} (hk : k < m.gates.length) : (flows m.gates.length m 0 (add (List.replicate 80 0) w c)).getD k 0 = vis m w c k := flows_here h hk
theorem back_iff {m : Machine} (h : Rt m) {e w c : Nat} (he : m.entries.getD e 64 = w) : back m e c = true ↔ ∀ k, k < m.gates.length → (gate m k).kind = 0 → vis m w c k % 2 = 0 := by
  unfold back visits
  rw [he, flows_all h.n]
  simp only [List.all_eq_true, List.mem_range, Bool.or_eq_true, bne_iff_ne, beq_iff_eq]
  constructor
  · intro q k hk hz
    rcases q k hk with z | z
    · exact absurd hz z
    · rw [vis_end h hk] at z
      exact z
  · intro q k hk
    by_cases hz : (gate m k).kind = 0
    · right
      rw [vis_end h hk]
      exact q k hk hz
    · exact .inl hz
theorem vis_scale {m : Machine} {w j i : Nat} (hw : w < 80) (hj : j ≤ 64) (hi : i < m.gates.length) (he : ∀ k, k < i → (gate m k).kind = 0 → vis m w (2 ^ j) k % 2 = 0) : vis m w (2 ^ 64) i = 2 ^ (64 - j) * vis m w (2 ^ j) i := by
  refine flows_scale (by rw [add_len, add_len]) (fun k => ?_) i (by omega) he i
  rw [start_get _ _ _ hw, start_get _ _ _ hw]
  split
  · rw [← Nat.pow_add, show 64 - j + j = 64 by omega]
  · rw [Nat.mul_zero]
theorem back_dvd {m : Machine} (h : Rt m) {e w j : Nat} (he : m.entries.getD e 64 = w) (hw : w < 80) (hj : j ≤ 64) :
    back m e (2 ^ j) = true ↔ ∀ k, k < m.gates.length → (gate m k).kind = 0 → 2 ^ (65 - j) ∣ vis m w (2 ^ 64) k := by
  rw [back_iff h he]
  have ep : 2 ^ (65 - j) = 2 ^ (64 - j) * 2 := by rw [show 65 - j = 64 - j + 1 by omega, Nat.pow_succ]
  constructor
  · intro q k hk hz
    rw [vis_scale hw hj hk fun k' hk' => q k' (by omega), ep]
    obtain ⟨u, hu⟩ : ∃ u, vis m w (2 ^ j) k = 2 * u := ⟨vis m w (2 ^ j) k / 2, by have := q k hk hz; omega⟩
    exact ⟨u, by rw [hu, Nat.mul_assoc]⟩
  · intro q k
    induction k using Nat.strongRecOn with
    | _ k ih =>
      intro hk hz
      have d := q k hk hz
      rw [vis_scale hw hj hk fun k' hk' => ih k' hk' (by omega), ep] at d
      have := Nat.dvd_of_mul_dvd_mul_left (Nat.two_pow_pos _) d
      omega
/-! ### no marble is lost -/
theorem lefts_le (g : Gate) (v : Nat) : lefts g v ≤ v := by
  unfold lefts
  split
  · split <;> omega
  · split <;> omega
theorem add_drop (l : List Nat) {k i : Nat} (v : Nat) (h : i ≤ k) : (add l k v).drop i = add (l.drop i) (k - i) v := by
  unfold add
  rw [List.drop_set, if_neg (by omega)]
  congr 2
  rw [List.getD_eq_getElem?_getD, List.getD_eq_getElem?_getD, List.getElem?_drop, show i + (k - i) = k by omega]
theorem drop_sum {l : List Nat} {i : Nat} (h : i < l.length) : (l.drop i).sum = l.getD i 0 + (l.drop (i + 1)).sum := by
  rw [List.drop_eq_getElem_cons h, List.sum_cons, List.getD_eq_getElem?_getD, List.getElem?_eq_getElem h]
  rfl
theorem flow_sum {m : Machine} (h : Rt m) {l : List Nat} (hl : l.length = 80) : ∀ (i : Nat), i ≤ m.gates.length → ((flows i m 0 l).drop i).sum = l.sum
  | 0, _ => rfl
  | i + 1, hi => by
    have ih := flow_sum h hl i (by omega)
    have e1 := flows_last (m := m) i 0 l (by omega)
    rw [Nat.zero_add] at e1
    have hg : m.gates[i]? = some m.gates[i] := List.getElem?_eq_getElem (by omega)
    obtain ⟨_, _, w1, w2⟩ := h.g i _ hg
    have hn := h.n
    have hfl : (flows i m 0 l).length = 80 := by rw [flows_len, hl]
    have le := lefts_le m.gates[i] ((flows i m 0 l).getD i 0)
    rw [e1]
    unfold stepK
    rw [gate_of hg, add_drop _ _ (by omega), add_drop _ _ (by omega), add_sum _ _ _ (by rw [add_len, List.length_drop]; omega), add_sum _ _ _ (by rw [List.length_drop]; omega)]
    rw [drop_sum (by omega)] at ih
    omega
theorem vis_le {m : Machine} (h : Rt m) {w c k : Nat} (hw : w < 80) (hk : k < m.gates.length) : vis m w c k ≤ c := by
  have e := flow_sum h (l := add (List.replicate 80 0) w c) (by rw [add_len, List.length_replicate]) k (by omega)
  rw [add_sum _ _ _ (by rw [List.length_replicate]; exact hw)] at e
  have z : (List.replicate 80 0).sum = 0 := by decide
  rw [z, Nat.zero_add] at e
  have hn := h.n
  rw [drop_sum (by rw [flows_len, add_len, List.length_replicate]; omega)] at e
  unfold vis
  omega
/-! ### the least k -/
/-- what each gate asks for -/
def Asks (m : Machine) (w : Nat) (as : List Int) : Prop :=
  ∀ z, z ∈ as ↔ ∃ k, k < m.gates.length ∧ (gate m k).kind = 0 ∧ 0 < vis m w (2 ^ 64) k ∧ z = 65 - ((halv (vis m w (2 ^ 64) k) : Nat) : Int)
theorem asks_back {m : Machine} (h : Rt m) {e w : Nat} {as : List Int} (he : m.entries.getD e 64 = w) (hw : w < 80) (ha : Asks m w as) {j : Nat} (hj : j ≤ 64) : back m e (2 ^ j) = true ↔ ∀ z ∈ as, z ≤ (j : Int) := by
  rw [back_dvd h he hw hj]
  constructor
  · intro q z hz
    obtain ⟨k, hk, hz0, hp, rfl⟩ := (ha z).mp hz
    have := (halv_dvd hp).mp (q k hk hz0)
    omega
  · intro q k hk hz0
    by_cases hp : vis m w (2 ^ 64) k = 0
    · rw [hp]; exact ⟨0, rfl⟩
    · have hp : 0 < vis m w (2 ^ 64) k := by omega
      have := q _ ((ha _).mpr ⟨k, hk, hz0, hp, rfl⟩)
      exact (halv_dvd hp).mpr (by omega)
theorem asks_pos {m : Machine} (h : Rt m) {w : Nat} {as : List Int} (hw : w < 80) (ha : Asks m w as) {z : Int} (hz : z ∈ as) : 0 ≤ z := by
  obtain ⟨k, hk, _, hp, rfl⟩ := (ha z).mp hz
  have d : 2 ^ halv (vis m w (2 ^ 64) k) ∣ vis m w (2 ^ 64) k := (halv_dvd hp).mpr (Nat.le_refl _)
  have l := Nat.le_trans (Nat.le_of_dvd hp d) (vis_le h hw hk)
  have : halv (vis m w (2 ^ 64) k) ≤ 64 := (Nat.pow_le_pow_iff_right (by decide)).mp l
  omega
theorem find_back {m : Machine} (h : Rt m) {e w : Nat} {as : List Int} (h3 : e ≤ 3) (he : m.entries.getD e 64 = w) (hw : w < 80) (ha : Asks m w as) {M : Int} (hM : (as = [] ∧ M = 0) ∨ (M ∈ as ∧ ∀ z ∈ as, z ≤ M)) :
    ∃ j : Nat, M = (j : Int) ∧ ((List.range 65).find? fun j => back m e (2 ^ j)) = some j := by
  have p0 : 0 ≤ M := by
    rcases hM with ⟨_, z⟩ | ⟨z, _⟩
    · omega
    · exact asks_pos h hw ha z
  have le : ∀ z ∈ as, z ≤ M := by
    rcases hM with ⟨z, _⟩ | ⟨_, z⟩
    · rw [z]; exact fun _ q => nomatch q
    · exact z
  have l64 : M ≤ 64 := by
    rcases hM with ⟨_, z⟩ | ⟨z, _⟩
    · omega
    · exact (asks_back h he hw ha (Nat.le_refl 64)).mp (back_64 h h3) M z
  refine ⟨M.toNat, by omega, ?_⟩
  rw [List.find?_range_eq_some]
  refine ⟨(asks_back h he hw ha (by omega)).mpr fun z hz => ?_, List.mem_range.mpr (by omega), fun j hj => ?_⟩
  · have := le z hz
    omega
  · rw [Bool.not_eq_true', Bool.eq_false_iff]
    intro q
    have q2 := (asks_back h he hw ha (by omega)).mp q
    rcases hM with ⟨_, z⟩ | ⟨z, _⟩
    · omega
    · have := q2 M z
      omega
/-! ### one gate is tilted by hand -/
theorem xor01 {a b : Nat} (ha : a ≤ 1) (hb : b ≤ 1) : a ^^^ b = if a = b then 0 else 1 := by
  have h1 : a = 0 ∨ a = 1 := by omega
  have h2 : b = 0 ∨ b = 1 := by omega
  rcases h1 with rfl | rfl <;> rcases h2 with rfl | rfl <;> rfl
theorem bits_tilt {gs : List Gate} {k t : Nat} {g : Gate} (ht : Tl gs) (hg : gs[k]? = some g) (h1 : t ≤ 1) : bits (gs.set k { g with tilt := t }) = bits gs ^^^ ((g.tilt ^^^ t) * 2 ^ k) := by
  have tg : g.tilt ≤ 1 := ht g (List.mem_of_getElem? hg)
  rw [xor01 tg h1]
  by_cases e : g.tilt = t
  · rw [if_pos e, Nat.zero_mul, Nat.xor_zero]
    have : ({ g with tilt := t } : Gate) = g := by rw [← e]
    rw [this]
    congr 1
    apply List.ext_getElem?
    intro i
    rw [List.getElem?_set]
    split
    · rename_i z
      subst z
      split
      · exact hg.symm
      · rename_i z
        exact absurd (List.getElem?_eq_some_iff.mp hg).1 z
    · rfl
  · rw [if_neg e, Nat.one_mul]
    have hk := (List.getElem?_eq_some_iff.mp hg).1
    have e2 : turned g = { g with tilt := t } := by
      unfold turned
      congr 1
      omega
    rw [← e2, ← flipAll_hot gs k g hg, bits_flip (by unfold oneHot; rw [List.length_map, List.length_range]) ht, bitsB_hot _ _ hk]
theorem tilt_sh {m : Machine} {k t : Nat} {g : Gate} (h : Rt m) (hg : m.gates[k]? = some g) (h1 : t ≤ 1) : Sh m { m with gates := m.gates.set k { g with tilt := t } } := by
  refine ⟨?_, rfl, rfl, fun x hx => ?_⟩
  · show (m.gates.set k { g with tilt := t }).map Gsh = m.gates.map Gsh
    apply List.ext_getElem?
    intro i
    rw [List.getElem?_map, List.getElem?_map, List.getElem?_set]
    split
    · rename_i z
      subst z
      rw [hg, if_pos (List.getElem?_eq_some_iff.mp hg).1]
      rfl
    · rfl
  · rcases List.mem_or_eq_of_mem_set hx with z | z
    · exact h.tl x z
    · rw [z]; exact h1
/-! ### the gates, one by one, behind a flow that is told whole -/
def mTo (m : Machine) (L : List Nat) (i : Nat) : Machine := { m with gates := tiltTo L i m.gates }
theorem mTo_zero (m : Machine) (L : List Nat) : mTo m L 0 = m := by unfold mTo; rw [tiltTo_zero]
theorem mTo_gate {m : Machine} {L : List Nat} {i : Nat} {g : Gate} (hg : m.gates[i]? = some g) : (mTo m L i).gates[i]? = some g := by
  show (tiltTo _ i m.gates)[i]? = some g
  rw [tiltTo_at _ (Nat.le_refl i)]; exact hg
theorem mTo_step {m : Machine} {L : List Nat} {i : Nat} {g : Gate} (hg : m.gates[i]? = some g) (hk : g.kind ≤ 1) : mTo m L (i + 1) = if L.getD i 0 % 2 = 1 then passed (mTo m L i) i else mTo m L i :=
  tiltTo_step hg hk fun _ _ => rfl
theorem kind_le {m : Machine} (h : geared m = false) {i : Nat} {g : Gate} (hg : m.gates[i]? = some g) : g.kind ≤ 1 := by
  unfold geared at h
  rw [List.any_eq_false] at h
  have := h g (List.mem_of_getElem? hg)
  simp at this
  omega
theorem mTo_sh {m : Machine} (h : Rt m) (hg : geared m = false) (L : List Nat) : ∀ i, i ≤ m.gates.length → Sh m (mTo m L i)
  | 0, _ => by rw [mTo_zero]; exact Sh.refl h
  | i + 1, hi => by
    have e : m.gates[i]? = some m.gates[i] := List.getElem?_eq_getElem (by omega)
    have ih := mTo_sh h hg L i (by omega)
    rw [mTo_step e (kind_le hg e)]
    split
    · exact ih.trans (passed_sh (mTo_gate e) ih.t)
    · exact ih
theorem many_to {m : Machine} (h : Rt m) {e c w : Nat} (he : m.entries.getD e 64 = w) :
    Klm.many m e c = (mTo m (flows m.gates.length m 0 (add (List.replicate 80 0) w c)) m.gates.length, (flows m.gates.length m 0 (add (List.replicate 80 0) w c)).drop 64) := by
  unfold Klm.many visits
  rw [he, flows_all h.n]
  unfold mTo
  rw [tiltTo_all]
/-! ### how many marbles a run let go -/
end Mg
set_option Elab.async false
set_option linter.all false
set_option maxRecDepth 100000
/-! max(xs, default=d), the built-in's own turns. -/
namespace Mg
open PySem
section
variable {prog : Program} {w : World} {A : Around} {R : Result → Shared → Prop} {I : Addr} {fp wr : List Addr} {n : Nat} {P : Nat → Value → Prop} {St : Nat → Heap → Prop} {d : Value}
/-- the list of the best one so far -/
abbrev bestAt (B : Addr) (xs : Array Value) (c : Nat) (h : Heap) : Prop := h.get? B = some { cls := .type "list", dict := none, data := .seq xs c, slots := #[] }
theorem nm_loop : (toString "max" ++ toString ".loop" : String) = "max.loop" := by decide
theorem maxD_rest (W : Walks prog w A.in1 I fp wr n P St) (bt : Nat → Nat → Bool) (cmp : CmpOf prog w A.in1 .Gt P bt) (B : Addr) (nB : B ∉ fp) : ∀ (r j : Nat) (s : Shared) (u : Value) (c : Nat), n - (j + 1) = r → j + 1 ≤ n → St (j + 1) s.heap → P (argBest bt j) u → bestAt B #[u, u] c s.heap →
    (∀ v h' tk, P (argBest bt (n - 1)) v → (∀ b o, b ∉ wr → b ≠ B → s.heap.get? b = some o → h'.get? b = some o) → R (.ok (.ret v)) { s with heap := h', toks := tk }) →
    codeAny (model prog w) A (.builtin "max.loop" ⟨[.ref I, .none, .ref B], [(Str.ofString "default", d)]⟩) R s := by
  have wB : B ∉ wr := fun q => nB (W.sub _ q)
  intro r
  induction r with
  | zero =>
    intro j s u c hr hj st pu hB fin
    have ej : j + 1 = n := by omega
    refine codeAny_builtin (F.entry_max_loop) ?_
    rw [Around.under_plainId (F.plain_max_loop) _]
    show wpAny _ A.in1 (seqItems? (.ref B) >>= _) _ _ s
    refine wpAny_bind (wpAny_seqItems hB rfl ?_)
    show wpAny _ A.in1 (tryCatch (pyNext (.ref I)) _ >>= _) _ _ s
    refine wpAny_bind (wpAny_tryCatch (W.done s _ _ (ej ▸ st) fun h1 tk k1 => ?_))
    have hB1 := k1 B _ wB hB
    show wpAny _ A.in1 (updateSeq B (fun _ => #[]) >>= _) _ _ _
    refine wpAny_bind ?_
    refine wpAny_updateSeq hB1 rfl (wpAny_bind (wpAny_letGo (wpAny_pure ?_)))
    exact fin u _ tk (by rw [← ej]; exact pu) fun b o hw hb e => (Heap.get?_update_other _ _ (Ne.symm hb)).trans (k1 b o hw e)
  | succ r ih =>
    intro j s u c hr hj st pu hB fin
    have lt : j + 1 < n := by omega
    refine codeAny_builtin (F.entry_max_loop) ?_
    rw [Around.under_plainId (F.plain_max_loop) _]
    show wpAny _ A.in1 (seqItems? (.ref B) >>= _) _ _ s
    refine wpAny_bind (wpAny_seqItems hB rfl ?_)
    show wpAny _ A.in1 (tryCatch (pyNext (.ref I)) _ >>= _) _ _ s
    refine wpAny_bind (wpAny_tryCatch (W.item (j + 1) s _ _ lt st fun v h1 tk pv st1 k1 => ?_))
    have hB1 := k1 B _ wB hB
    show wpAny _ A.in1 (tryCatch (holding [v, v] (richCompare .Gt v u >>= _)) _ >>= _) _ _ _
    refine wpAny_bind (wpAny_tryCatch (wpAny_holding (wpAny_bind (cmp (j + 1) (argBest bt j) v u _ _ _ pv pu ?_))))
    refine wpAny_bind (wpAny_holding (wpAny_truthy_bool ?_))
    refine wpAny_bind (wpAny_letGo (wpAny_pure ?_))
    cases hb : bt (j + 1) (argBest bt j) with
    | true =>
      simp only [if_true]
      refine wpAny_bind ?_
      refine wpAny_updateSeq hB1 rfl (wpAny_bind (wpAny_letGo ?_))
      rw [nm_loop]
      refine wpAny_pure ⟨plainId_quiet F.plain_max_loop _, ih (j + 1) _ v _ (by omega) lt (W.frame _ _ _ st1 fun b hf o e => ?_) (by simp only [argBest, hb, if_true]; exact pv) (Heap.get?_update_self _ hB1 rfl) fun v2 h2 tk2 p2 k2 => ?_⟩
      · exact (Heap.get?_update_other _ _ (fun q : B = b => nB (by rw [q]; exact hf))).trans e
      · exact fin v2 h2 tk2 p2 fun b o hw hn e => k2 b o hw hn ((Heap.get?_update_other _ _ (Ne.symm hn)).trans (k1 b o hw e))
    | false =>
      simp only [Bool.false_eq_true, if_false]
      refine wpAny_bind (wpAny_letGo ?_)
      rw [nm_loop]
      refine wpAny_pure ⟨plainId_quiet F.plain_max_loop _, ih (j + 1) _ u c (by omega) lt st1 (by simp only [argBest, hb, Bool.false_eq_true, if_false]; exact pu) hB1 fun v2 h2 tk2 p2 k2 => ?_⟩
      exact fin v2 h2 tk2 p2 fun b o hw hn e => k2 b o hw hn (k1 b o hw e)
theorem maxD_first (W : Walks prog w A.in1 I fp wr n P St) (bt : Nat → Nat → Bool) (cmp : CmpOf prog w A.in1 .Gt P bt) (B : Addr) (nB : B ∉ fp) {s : Shared} {c : Nat} (st : St 0 s.heap) (hB : bestAt B #[] c s.heap)
    (fin : ∀ v h' tk, (n = 0 ∧ v = d) ∨ (0 < n ∧ P (argBest bt (n - 1)) v) → (∀ b o, b ∉ wr → b ≠ B → s.heap.get? b = some o → h'.get? b = some o) → R (.ok (.ret v)) { s with heap := h', toks := tk }) :
    codeAny (model prog w) A (.builtin "max.loop" ⟨[.ref I, .none, .ref B], [(Str.ofString "default", d)]⟩) R s := by
  have wB : B ∉ wr := fun q => nB (W.sub _ q)
  refine codeAny_builtin (F.entry_max_loop) ?_
  rw [Around.under_plainId (F.plain_max_loop) _]
  show wpAny _ A.in1 (seqItems? (.ref B) >>= _) _ _ s
  refine wpAny_bind (wpAny_seqItems hB rfl ?_)
  show wpAny _ A.in1 (tryCatch (pyNext (.ref I)) _ >>= _) _ _ s
  by_cases hn : 0 < n
  · refine wpAny_bind (wpAny_tryCatch (W.item 0 s _ _ hn st fun v h1 tk pv st1 k1 => ?_))
    have hB1 := k1 B _ wB hB
    show wpAny _ A.in1 (updateSeq B (fun _ => #[v, v]) >>= _) _ _ _
    refine wpAny_bind ?_
    refine wpAny_updateSeq hB1 rfl ?_
    rw [nm_loop]
    refine wpAny_pure ⟨plainId_quiet F.plain_max_loop _, maxD_rest W bt cmp B nB _ 0 _ v _ rfl hn (W.frame _ _ _ st1 fun b hf o e => ?_) pv (Heap.get?_update_self _ hB1 rfl) fun v2 h2 tk2 p2 k2 => ?_⟩
    · exact (Heap.get?_update_other _ _ (fun q : B = b => nB (by rw [q]; exact hf))).trans e
    · exact fin v2 h2 tk2 (.inr ⟨hn, p2⟩) fun b o hw hn e => k2 b o hw hn ((Heap.get?_update_other _ _ (Ne.symm hn)).trans (k1 b o hw e))
  · have e0 : n = 0 := by omega
    refine wpAny_bind (wpAny_tryCatch (W.done s _ _ (by rw [e0]; exact st) fun h1 tk k1 => ?_))
    show wpAny _ A.in1 (rule _ >>= _) _ _ _
    refine wpAny_bind (wpAny_rule ?_)
    exact wpAny_pure (fin d h1 tk (.inl ⟨e0, rfl⟩) fun b o hw hb e => k1 b o hw e)
end
section
variable {prog : Program} {w : World} {A : Around} {E : Value → Shared → Prop} {s : Shared} {d : Value}
theorem args_maxD (a v : Value) : argsOk "max" ⟨[a], [(Str.ofString "default", v)]⟩ := by unfold argsOk; kernel_rfl
/-- the tree of a built-in function that is called with keywords -/
theorem tree_kw {id : String} {b : Builtin} {us : List Value} {kw : List (Str × Value)} {Q : Value → Shared → Prop} (hk : builtinKind id = none) (hp : plainId id = true) (hb : entryFor table id = some b) (ha : argsOk id ⟨us, kw⟩)
    (hc : wpAny (model prog w) A.in1 (b ⟨us, kw⟩) (fun fin s' => match fin with
      | .done f => (match (Except.ok f : Result) with | .ok (.ret v) => Q v s' | .ok _ => False | .error e => E e s')
      | .again c' => c'.quiet = true ∧ codeAny (model prog w) A c' (fun r s' => match r with | .ok (.ret v) => Q v s' | .ok _ => False | .error e => E e s') s') E s) :
    wpAny (model prog w) A (call (.builtin id) us kw) Q E s := by
  refine wpAny_call (codeAny_call_builtin hp hb ?_)
  simp only [checkBuiltinCall, hk]
  cases sg : Manifest.signature? id with
  | none => exact wpAny_pure hc
  | some sig =>
    have h2 : Bind.checkArgs id sig ⟨us, kw⟩ = pure () := by simpa only [argsOk, sg] using ha
    simp only [h2]
    exact wpAny_pure hc
theorem maxD_walk {x : Value} {Q : Value → Shared → Prop}
    (h : wpAny (model prog w) A.in1 (pyIter x) (fun it s2 => ∃ I fp wr n P St bt, it = .ref I ∧ Walks prog w A.in1 I fp wr n P St ∧ St 0 s2.heap ∧ (∀ b ∈ fp, b < s2.heap.objs.size) ∧ CmpOf prog w A.in1 .Gt P bt ∧
      ∀ v h' tk, (n = 0 ∧ v = d) ∨ (0 < n ∧ P (argBest bt (n - 1)) v) → (∀ b o, b ∉ wr → s2.heap.get? b = some o → h'.get? b = some o) → Q v { s2 with heap := h', toks := tk }) E s) :
    wpAny (model prog w) A (call (.builtin "max") [x] [(Str.ofString "default", d)]) Q E s := by
  refine tree_kw (F.kind_max) (F.plain_max) (F.entry_max) (args_maxD _ _) ?_
  show wpAny _ A.in1 (Builtin.Builtins.bindParams "max" ["key", "default"] 0 ⟨[], [(Str.ofString "default", d)]⟩ >>= _) _ _ s
  refine wpAny_bind (wpAny_of_eq (show Builtin.Builtins.bindParams "max" ["key", "default"] 0 ⟨[], [(Str.ofString "default", d)]⟩ = pure [none, some d] from rfl) ?_)
  refine wpAny_bind (wpAny_pure ?_)
  refine wpAny_bind (wpAny_mono h (fun it s2 q => ?_) fun _ _ e => e)
  obtain ⟨I, fp, wr, n, P, St, bt, rfl, W, st, hf, cmp, fin⟩ := q
  refine wpAny_bind (wpAny_newObj_type ?_)
  have nB : s2.heap.objs.size ∉ fp := fun q => Nat.lt_irrefl _ (hf _ q)
  rw [nm_loop]
  refine wpAny_pure ⟨plainId_quiet F.plain_max_loop _, maxD_first W bt cmp s2.heap.objs.size nB (W.frame _ _ _ st fun b _ o e => Heap.get?_push_of_some _ e) (Heap.get?_push_size _ rfl) fun v h' tk hv k => ?_⟩
  exact fin v h' tk hv fun b o hw e => k b o hw (Nat.ne_of_lt (Heap.lt_size e)) (Heap.get?_push_of_some _ e)
end
end Mg
set_option Elab.async false
set_option linter.all false
set_option maxRecDepth 100000
set_option maxHeartbeats 2000000
/-! Marbles: the words over the layer: objects, callees, the promise of each def. -/
namespace Mg
open PySem PySem.Spec PyProof.Rows L2

/-! ### values -/
def iv (n : Nat) : V := .int (n : Int)
def ivs (l : List Nat) : List V := l.map iv
theorem ivs_len (l : List Nat) : (ivs l).length = l.length := by unfold ivs; rw [List.length_map]
theorem ivs_get {l : List Nat} {k n : Nat} (h : l[k]? = some n) : (ivs l)[k]? = some (iv n) := by unfold ivs; rw [List.getElem?_map, h]; rfl
theorem ivs_int (l : List Nat) : ivs l = (KlmNeutral.ints l).map V.int := by unfold ivs KlmNeutral.ints; rw [List.map_map]; rfl
theorem ivs_nats {l : List Int} (h : ∀ z ∈ l, 0 ≤ z) : l.map V.int = ivs (KlmNeutral.natsOf l) := by
  unfold ivs KlmNeutral.natsOf
  rw [List.map_map]
  apply List.map_congr_left
  intro z hz
  show V.int z = V.int ((z.toNat : Nat) : Int)
  rw [Int.toNat_of_nonneg (h z hz)]

theorem take_succ_of {α : Type} : ∀ {l : List α} {i : Nat} {x : α}, l[i]? = some x → l.take (i + 1) = l.take i ++ [x]
  | [], i, x, h => by simp at h
  | a :: l, 0, x, h => by
    have e : a = x := Option.some.inj h
    subst e
    rfl
  | a :: l, i + 1, x, h => by
    have ih := take_succ_of (l := l) (i := i) (x := x) h
    show a :: l.take (i + 1) = a :: l.take i ++ [x]
    rw [ih]
    rfl
theorem sum_snoc : ∀ (l : List Int) (z : Int), (l ++ [z]).sum = l.sum + z
  | [], z => by
    show ([z] : List Int).sum = ([] : List Int).sum + z
    rw [List.sum_cons]
    exact Int.add_comm _ _
  | a :: l, z => by
    show (a :: (l ++ [z])).sum = (a :: l).sum + z
    rw [List.sum_cons, List.sum_cons, sum_snoc l z]
    omega
theorem sz64 {n : Nat} (h : n ≤ 1000000) : n < sizeLine := by rw [sizeLine_eq]; omega
/-! ### the heap -/
/-- all is kept but what stands at p -/
def But (p : Addr) (H H' : Hp) : Prop := ∀ b o, H b = some o → b ≠ p → H' b = some o
theorem But.upd (p : Addr) (H : Hp) (o : HO) : But p H (upd H p o) := fun b u e hb => by rw [upd_ne hb]; exact e
theorem But.refl (p : Addr) (H : Hp) : But p H H := fun _ _ e _ => e
theorem But.trans {p : Addr} {H H1 H2 : Hp} (a : But p H H1) (b : But p H1 H2) : But p H H2 := fun c o e hc => b c o (a c o e hc) hc
theorem But.same {p : Addr} {H H' : Hp} (s : Same H H') : But p H H' := fun b o e _ => s b o e
theorem But.seq {K : PySem.W.Frag} {p a : Addr} {H H' : Hp} {xs : List V} {C dx : Addr} {fs : List (Str × V)} (b : But p H H') (hp : H p = some (.ins C dx fs)) (h : SqL K H a xs) : SqL K H' a xs := by
  rcases h with (h | ⟨o, h⟩) | h
  · exact .inl (.inl (b _ _ h (ne_of h hp (by intro z; cases z))))
  · exact .inl (.inr ⟨o, b _ _ h (ne_of h hp (by intro z; cases z))⟩)
  · exact .inr h
theorem Same.new {H : Hp} {p : Addr} {o : HO} (h : H p = none) : Same H (upd H p o) := fun b u e => by
  rw [upd_ne (ne_of_none e h)]; exact e

/-! ### fields -/
def rdF (a : Addr) (k : Int) : List (Str × V) := [("calls", .ref a), ("at", .int k)]
def bdF (v : V) : List (Str × V) := [("machine", v)]
def mcF (lk : Addr) (T : Int) (ls lf le ll : Addr) : List (Str × V) := [("kinds", .ref lk), ("tilts", .int T), ("sides", .ref ls), ("flips", .ref lf), ("entries", .ref le), ("levers", .ref ll)]
section
variable {a lk ls lf le ll : Addr} {k T : Int} {v : V}
theorem rd_calls : (rdF a k).lookup ("calls" : Str) = some (V.ref a) := by rfl
theorem rd_at : (rdF a k).lookup ("at" : Str) = some (V.int k) := by rfl
theorem bd_mach : (bdF v).lookup ("machine" : Str) = some v := by rfl
theorem bd_put {u : V} : putF "machine" u (bdF v) = bdF u := by rfl
theorem mc_kinds : (mcF lk T ls lf le ll).lookup ("kinds" : Str) = some (V.ref lk) := by rfl
theorem mc_tilts : (mcF lk T ls lf le ll).lookup ("tilts" : Str) = some (V.int T) := by rfl
theorem mc_sides : (mcF lk T ls lf le ll).lookup ("sides" : Str) = some (V.ref ls) := by rfl
theorem mc_flips : (mcF lk T ls lf le ll).lookup ("flips" : Str) = some (V.ref lf) := by rfl
theorem mc_entries : (mcF lk T ls lf le ll).lookup ("entries" : Str) = some (V.ref le) := by rfl
theorem mc_levers : (mcF lk T ls lf le ll).lookup ("levers" : Str) = some (V.ref ll) := by rfl
theorem mc_put {T' : Int} : putF "tilts" (.int T') (mcF lk T ls lf le ll) = mcF lk T' ls lf le ll := by rfl
theorem mc_at : (mcF lk T ls lf le ll).lookup ("at" : Str) = none := by rfl
theorem bd_at : (bdF v).lookup ("at" : Str) = none := by rfl
end

/-! ### objects -/
/-- a Reader that reads the list at a, its next place k -/
def RdAt (CR : Addr) (H : Hp) (r a : Addr) (k : Nat) : Prop := ∃ dx, H r = some (.ins CR dx (rdF a (k : Int)))
/-- the pairs of left and right -/
def sideT (g : Klm.Gate) : List V := [iv g.left, iv g.right]
/-- the Machine at p is m -/
structure McAt (CM : Addr) (H : Hp) (p : Addr) (m : Klm.Machine) (dx lk ls lf le ll : Addr) (ts : List Addr) : Prop where
  ob : H p = some (.ins CM dx (mcF lk (Klm.bits m.gates : Int) ls lf le ll))
  kinds : H lk = some (.lst (ivs (m.gates.map (·.kind))))
  sides : H ls = some (.lst (ts.map V.ref))
  tl : ts.length = m.gates.length
  tup : ∀ (i : Nat) (t : Addr) (g : Klm.Gate), ts[i]? = some t → m.gates[i]? = some g → H t = some (.tup (sideT g))
  flips : H lf = some (.lst (ivs ((List.range m.gates.length).map fun i => flipN (m.gates.map (·.kind)) i)))
  entries : H le = some (.lst (ivs m.entries))
  levers : H ll = some (.lst (ivs m.levers))
def MachAt (CM : Addr) (H : Hp) (p : Addr) (m : Klm.Machine) : Prop := ∃ dx lk ls lf le ll ts, McAt CM H p m dx lk ls lf le ll ts
/-- what may change within a call: machines and boards -/
def Loose (o : HO) : Prop := ∃ C dx fs, o = .ins C dx fs ∧ fs.lookup ("at" : Str) = none
/-- all else is kept -/
def Kp (H H' : Hp) : Prop := ∀ b o, H b = some o → ¬ Loose o → H' b = some o
/-- lists and tuples are kept -/
def isIns : HO → Prop
  | .ins _ _ _ => True
  | _ => False
def Kl (H H' : Hp) : Prop := ∀ b o, H b = some o → ¬ isIns o → H' b = some o
theorem Kp.trans {H H1 H2 : Hp} (a : Kp H H1) (b : Kp H1 H2) : Kp H H2 := fun c o e h => b c o (a c o e h) h
theorem Kp.same {H H' : Hp} (s : Same H H') : Kp H H' := fun b o e _ => s b o e
theorem Kp.but {p : Addr} {H H' : Hp} (s : But p H H') {C dx : Addr} {fs : List (Str × V)} (hp : H p = some (.ins C dx fs)) (hf : fs.lookup ("at" : Str) = none) : Kp H H' := fun b o e n =>
  s b o e fun z => by
    subst z
    rw [hp] at e
    cases e
    exact n ⟨_, _, _, rfl, hf⟩
theorem Kl.trans {H H1 H2 : Hp} (a : Kl H H1) (b : Kl H1 H2) : Kl H H2 := fun c o e h => b c o (a c o e h) h
theorem Kl.kp {H H' : Hp} (a : Kp H H') : Kl H H' := fun b o e n => a b o e fun ⟨_, _, _, z, _⟩ => by subst z; exact n trivial
theorem Kl.same {H H' : Hp} (s : Same H H') : Kl H H' := fun b o e _ => s b o e
theorem Kl.but {p : Addr} {H H' : Hp} (s : But p H H') {C dx : Addr} {fs : List (Str × V)} (hp : H p = some (.ins C dx fs)) : Kl H H' := fun b o e n =>
  s b o e fun z => by
    subst z
    rw [hp] at e
    cases e
    exact n trivial
theorem Kl.lst {H H' : Hp} (k : Kl H H') {l : Addr} {xs : List V} (h : H l = some (.lst xs)) : H' l = some (.lst xs) := k _ _ h fun z => z
theorem Kl.tup {H H' : Hp} (k : Kl H H') {l : Addr} {xs : List V} (h : H l = some (.tup xs)) : H' l = some (.tup xs) := k _ _ h fun z => z
theorem Kl.seq {K : PySem.W.Frag} {a : Addr} {H H' : Hp} {xs : List V} (k : Kl H H') (h : SqL K H a xs) : SqL K H' a xs := by
  rcases h with (h | ⟨o, h⟩) | h
  · exact .inl (.inl (k.lst h))
  · exact .inl (.inr ⟨o, k _ _ h fun z => z⟩)
  · exact .inr h
/-- the Board at b holds what the state says -/
def StAt (CB CM : Addr) (H : Hp) (b : Addr) : KlmNeutral.S → Prop
  | none => ∃ dx, H b = some (.ins CB dx (bdF .non))
  | some m => Rt m ∧ ∃ dx p, H b = some (.ins CB dx (bdF (.ref p))) ∧ MachAt CM H p m
section
variable {CM : Addr} {H H' : Hp} {p : Addr} {m m' : Klm.Machine} {dx lk ls lf le ll : Addr} {ts : List Addr}
/-- the lists of a machine and its object, elsewhere -/
theorem McAt.move (M : McAt CM H p m dx lk ls lf le ll ts) (k : Kl H H') (s : Sh m m') (ob : H' p = some (.ins CM dx (mcF lk (Klm.bits m'.gates : Int) ls lf le ll))) : McAt CM H' p m' dx lk ls lf le ll ts := by
  refine ⟨ob, ?_, k.lst M.sides, by rw [s.len]; exact M.tl, fun i t g' e1 e2 => ?_, ?_, ?_, ?_⟩
  · rw [s.kinds]; exact k.lst M.kinds
  · obtain ⟨g, e3, _, e4, e5⟩ := s.at e2
    have := k.tup (M.tup i t g e1 e3)
    unfold sideT at this ⊢
    rw [← e4, ← e5]
    exact this
  · rw [s.kinds, s.len]; exact k.lst M.flips
  · rw [s.e]; exact k.lst M.entries
  · rw [s.l]; exact k.lst M.levers
/-- where all that is tracked is kept -/
theorem McAt.same (M : McAt CM H p m dx lk ls lf le ll ts) (s : Same H H') : McAt CM H' p m dx lk ls lf le ll ts :=
  ⟨s _ _ M.ob, s _ _ M.kinds, s _ _ M.sides, M.tl, fun i t g e1 e2 => s _ _ (M.tup i t g e1 e2), s _ _ M.flips, s _ _ M.entries, s _ _ M.levers⟩
theorem MachAt.same (M : MachAt CM H p m) (s : Same H H') : MachAt CM H' p m := by
  obtain ⟨dx, lk, ls, lf, le, ll, ts, M⟩ := M
  exact ⟨dx, lk, ls, lf, le, ll, ts, M.same s⟩
theorem MachAt.ob (M : MachAt CM H p m) : ∃ dx fs, H p = some (.ins CM dx fs) ∧ fs.lookup ("at" : Str) = none ∧ fs.length = 6 := by
  obtain ⟨dx, lk, ls, lf, le, ll, ts, M⟩ := M
  exact ⟨dx, _, M.ob, mc_at, rfl⟩
/-- the tilts alone are changed -/
theorem McAt.turn (M : McAt CM H p m dx lk ls lf le ll ts) (s : Sh m m') : McAt CM (upd H p (.ins CM dx (mcF lk (Klm.bits m'.gates : Int) ls lf le ll))) p m' dx lk ls lf le ll ts :=
  M.move (Kl.but (But.upd p H _) M.ob) s upd_same
end
theorem StAt.same {CB CM : Addr} {H H' : Hp} {b : Addr} {S : KlmNeutral.S} (h : StAt CB CM H b S) (s : Same H H') : StAt CB CM H' b S := by
  cases S with
  | none =>
    obtain ⟨dx, e⟩ := h
    exact ⟨dx, s _ _ e⟩
  | some m =>
    obtain ⟨r, dx, p, e, M⟩ := h
    exact ⟨r, dx, p, s _ _ e, M.same s⟩
/-- a Reader is moved on: the Board stays -/
theorem StAt.but {CB CM CR : Addr} {H H' : Hp} {b r a : Addr} {k : Nat} {S : KlmNeutral.S} (h : StAt CB CM H b S) (hr : RdAt CR H r a k) (s : But r H H') : StAt CB CM H' b S := by
  obtain ⟨dr, er⟩ := hr
  have kl : Kl H H' := Kl.but s er
  cases S with
  | none =>
    obtain ⟨dx, e⟩ := h
    exact ⟨dx, s _ _ e (ne_of e er (by intro z; cases z))⟩
  | some m =>
    obtain ⟨rt, dx, p, e, d2, lk, ls, lf, le, ll, ts, M⟩ := h
    exact ⟨rt, dx, p, s _ _ e (ne_of e er (by intro z; cases z)), d2, lk, ls, lf, le, ll, ts, M.move kl (Sh.refl rt) (s _ _ M.ob (ne_of M.ob er (by intro z; cases z)))⟩
theorem RdAt.kp {CR : Addr} {H H' : Hp} {r a : Addr} {k : Nat} (h : RdAt CR H r a k) (s : Kp H H') : RdAt CR H' r a k := by
  obtain ⟨dr, er⟩ := h
  exact ⟨dr, s _ _ er fun ⟨_, _, _, z, l⟩ => by cases z; exact absurd l (by intro q; cases q)⟩

/-! ### what is called -/
/-- a def of the module, as it stands in the text -/
def Dn (K : PySem.W.Frag) (mg : Str → Option Value) (x : Str) (st : Stmt) (ps : List Str) : Prop := ∃ f fd, Fun K x x st f fd ∧ mg x = some (.ref f) ∧ Binds K fd ps []
/-- .. and what it promises -/
def Cal (P : Program) (w : World) (K : PySem.W.Frag) (mg : Str → Option Value) (base : Heap) (x : Str) (k : Nat) (ps : List Str) (sp : Sp) : Prop :=
  ∃ f fd, FnOk P w K mg base CX0 k f fd ps sp ∧ mg x = some (.ref f) ∧ PySem.W.keepIn K (.ref f) = true ∧ Binds K fd ps []
/-- a method -/
def Dm (K : PySem.W.Frag) (C : Addr) (m qual : Str) (st : Stmt) (ps : List Str) : Prop := ∃ f fd, Fun K m qual st f fd ∧ Meth K C m f ∧ Binds K fd ps []
def CalM (P : Program) (w : World) (K : PySem.W.Frag) (mg : Str → Option Value) (base : Heap) (C : Addr) (m : Str) (k : Nat) (ps : List Str) (sp : Sp) : Prop :=
  ∃ f fd, FnOk P w K mg base CX0 k f fd ps sp ∧ Meth K C m f ∧ Binds K fd ps []
/-- an __init__ -/
def Di (K : PySem.W.Frag) (C : Addr) (qual : Str) (st : Stmt) (ps : List Str) : Prop := ∃ f fd, Fun K "__init__" qual st f fd ∧ Mk K C f ∧ Binds K fd ps []
def CalI (P : Program) (w : World) (K : PySem.W.Frag) (mg : Str → Option Value) (base : Heap) (C : Addr) (k : Nat) (ps : List Str) (sp : Sp) : Prop :=
  ∃ f fd, FnOk P w K mg base CX0 k f fd ps sp ∧ Mk K C f ∧ Binds K fd ps []
section
variable {X : Cx} {x m : Str} {k : Nat} {ps : List Str} {sp : Sp} {e o : Expr} {es : List Expr} {t : TA} {ta : TE} {p pos apos : Pos} {C : Addr}
theorem pe_cal (c : Cal X.prog X.w X.K X.mg X.base x k ps sp) (hr : Room k X.A) (hg : Gl X x) (ha : PA X (e :: es) t) (hdb : (x == ("__debug__" : Str)) = false := by decide)
    (he : starEach (e :: es) X.env = (false, eval e X.env) :: starEach es X.env := by rfl) (hpl : (backTo pos (starEach es X.env)).any (·.1) = false := by rfl) : PE X (.Call (.Name x p) (e :: es) [] pos) (tCall sp [] E0 t) := by
  obtain ⟨f, fd, F, hm, hk, hb⟩ := c
  exact pe_call F hr hg hm hk hb .nil pass0 ha hdb he hpl
theorem pe_calM {pl : Sem Bool} (c : CalM X.prog X.w X.K X.mg X.base C m k ps sp) (he : PE X o ta) (cl : Cls X.K C) (hr : Room k X.A)
    (ht : eval (.Call (.Attribute o m apos) [] [] pos) X.env = (do
      let ov ← eval o X.env
      standAt apos.atName
      let (f, first) ← holding [ov] (getMethod ov m pl)
      callWith pos f first (backTo pos (starEach [] X.env)) (backToKw pos (keywordEach [] X.env))) := by rfl) : PE X (.Call (.Attribute o m apos) [] [] pos) (tMeth C m sp [] E0 ta tNil) := by
  obtain ⟨f, fd, F, hm, hb⟩ := c
  exact pe_meth0 he cl hm F hr hb .nil pass0 ht
theorem pe_calI (c : CalI X.prog X.w X.K X.mg X.base C k ps sp) (hr : Room (k + 1) X.A) (hg : Gl X x) (hm : X.mg x = some (.ref C)) (ha : PA X (e :: es) t) (hdb : (x == ("__debug__" : Str)) = false := by decide)
    (he : starEach (e :: es) X.env = (false, eval e X.env) :: starEach es X.env := by rfl) (hpl : (backTo pos (starEach es X.env)).any (·.1) = false := by rfl) : PE X (.Call (.Name x p) (e :: es) [] pos) (tMake C sp [] E0 t) := by
  obtain ⟨f, fd, F, M, hb⟩ := c
  exact pe_make M F hr hg hm hb .nil pass0 ha hdb he hpl
theorem pe_calI0 (c : CalI X.prog X.w X.K X.mg X.base C k ps sp) (hr : Room (k + 1) X.A) (hg : Gl X x) (hm : X.mg x = some (.ref C)) (hdb : (x == ("__debug__" : Str)) = false := by decide) : PE X (.Call (.Name x p) [] [] pos) (tMake C sp [] E0 tNil) := by
  obtain ⟨f, fd, F, M, hb⟩ := c
  exact pe_make0 M F hr hg hm hb .nil pass0 hdb
end
section
variable {P : Program} {w : World} {K : PySem.W.Frag} {mg : Str → Option Value} {base : Heap} {k : Nat} {N ps : List Str} {sp : Sp} {st : Stmt}
theorem Dn.ok {x : Str} (D : Dn K mg x st ps) (S : FnScope N ps (defScope st)) (len : ∀ vs H Q E, sp vs H Q E → vs.length = ps.length)
    (hbody : ∀ (f : Addr) (cdv : Value) (A : Around) (outer : List Env) (s : Shared) (H : Hp) (vs : List V) (Q : VK) (E : XK), Room k (A.deeper (envOfC x (defScope st) s.heap.objs.size f cdv)) → sp vs H Q E →
      ∃ t, PSs (cxOf CX0 P w K mg base N x (defScope st) f cdv A outer s H E).nox (defBody st) t ∧ t { nx := fun _ H' => Q .non H', rt := Q } (start N vs) H) : Cal P w K mg base x (k + 1) ps sp := by
  obtain ⟨f, fd, F, hm, hb⟩ := D
  exact ⟨f, fd, F.ok S len (hbody f), hm, F.kp, hb⟩
theorem Dm.ok {C : Addr} {m qual : Str} (D : Dm K C m qual st ps) (S : FnScope N ps (defScope st)) (len : ∀ vs H Q E, sp vs H Q E → vs.length = ps.length)
    (hbody : ∀ (f : Addr) (cdv : Value) (A : Around) (outer : List Env) (s : Shared) (H : Hp) (vs : List V) (Q : VK) (E : XK), Room k (A.deeper (envOfC qual (defScope st) s.heap.objs.size f cdv)) → sp vs H Q E →
      ∃ t, PSs (cxOf CX0 P w K mg base N qual (defScope st) f cdv A outer s H E).nox (defBody st) t ∧ t { nx := fun _ H' => Q .non H', rt := Q } (start N vs) H) : CalM P w K mg base C m (k + 1) ps sp := by
  obtain ⟨f, fd, F, hm, hb⟩ := D
  exact ⟨f, fd, F.ok S len (hbody f), hm, hb⟩
theorem Di.ok {C : Addr} {qual : Str} (D : Di K C qual st ps) (S : FnScope N ps (defScope st)) (len : ∀ vs H Q E, sp vs H Q E → vs.length = ps.length)
    (hbody : ∀ (f : Addr) (cdv : Value) (A : Around) (outer : List Env) (s : Shared) (H : Hp) (vs : List V) (Q : VK) (E : XK), Room k (A.deeper (envOfC qual (defScope st) s.heap.objs.size f cdv)) → sp vs H Q E →
      ∃ t, PSs (cxOf CX0 P w K mg base N qual (defScope st) f cdv A outer s H E).nox (defBody st) t ∧ t { nx := fun _ H' => Q .non H', rt := Q } (start N vs) H) : CalI P w K mg base C (k + 1) ps sp := by
  obtain ⟨f, fd, F, hm, hb⟩ := D
  exact ⟨f, fd, F.ok S len (hbody f), hm, hb⟩
end

/-! ### rules whose written part is named (within a comprehension's block) -/
section
variable {X : Cx} {K : PySem.W.Frag}
theorem ixl (h : X.K = K := by rfl) : IxR X (rIxL K) := by subst h; exact ix_list
theorem sll (h : X.K = K := by rfl) : SlR X (rSlL K) := by subst h; exact sl_list
theorem pe_fldK {e : Expr} {f : Str} {pos : Pos} {ta : TE} (he : PE X e ta) (hb : attributeBase e f X.env (eval e X.env) = eval e X.env) (h : X.K = K := by rfl) : PE X (.Attribute e f pos) (tFld K ta f) := by subst h; exact pe_fld he hb
theorem pg_tupK {es : List Expr} {k : Nat} {t : TGs} {n : Nat} {pos : Pos} (hc : X.calm = true) (h : PGs X es t)
    (hn : (assignEach es X.env).length = n := by rfl) (hst : (assignEach es X.env).findIdx? (·.1) = none := by rfl) (hK : X.K = K := by rfl) : PG X (.Tuple es k pos) (gTup K n t) := by subst hK; exact pg_tup hc h hn hst
end
/-- the names of a comprehension's block, looked at -/
def blkB (N : List Str) (sc scope : Scope) (own : List (Str × Nat)) : Bool :=
  (scope.kind == .function) && (scope.names.all fun y => scope.names.lookup y.1 == some y.2) && (own.all fun p => N[p.2]? == some p.1) &&
    (scope.names.all fun y => !(y.2 == .free) || sc.names.lookup y.1 == some .cell || sc.names.lookup y.1 == some .free) &&
    (scope.names.all fun y => !(y.2 == .local || y.2 == .cell) || (own.map (·.1)).contains y.1 || !(N.contains y.1))
theorem blk_of {N : List Str} {sc scope : Scope} {own : List (Str × Nat)} (h : blkB N sc scope own = true) : BlkOk N sc scope own := by
  unfold blkB at h
  simp only [Bool.and_eq_true, List.all_eq_true, beq_iff_eq] at h
  obtain ⟨⟨⟨⟨h1, h2⟩, h3⟩, h4⟩, h5⟩ := h
  refine ⟨h1, h2, h3, fun y hy e => ?_, fun y hy e => ?_⟩
  · have := h4 y hy
    rw [e] at this
    simpa using this
  · have := h5 y hy
    have z : (y.2 == NameKind.local || y.2 == NameKind.cell) = true := by
      rcases e with e | e <;> rw [e] <;> rfl
    rw [z] at this
    simpa using this
/-! ### comprehensions -/
theorem yesT {σ : L2.St} {H : Hp} {A B : Hp → Prop} (h : A H) : tYes σ H (fun b H3 => if b = true then A H3 else B H3) := by
  show (if true = true then A H else B H)
  exact iteT h
/-- what a turn is to reach: the new list at D, what holds of it -/
def LcN (D : Addr) (Pv : Nat → List V → Hp → Prop) (i : Nat) : Hp → Prop := fun H' => ∃ acc, H' D = some (.lst acc) ∧ acc.length ≤ i + 1 ∧ Pv (i + 1) acc H'
theorem lc_put {D : Addr} {Pv : Nat → List V → Hp → Prop} {i : Nat} {H4 : Hp} {acc : List V} {y : V} (h1 : H4 D = some (.lst acc)) (h2 : acc.length ≤ i) (h3 : i < sizeLine) (h4 : Pv (i + 1) (acc ++ [y]) (upd H4 D (.lst (acc ++ [y])))) :
    ∃ acc, H4 D = some (.lst acc) ∧ acc.length < sizeLine ∧ LcN D Pv i (upd H4 D (.lst (acc ++ [y]))) :=
  ⟨acc, h1, Nat.lt_of_le_of_lt h2 h3, acc ++ [y], upd_same, by rw [List.length_append, List.length_singleton]; omega, h4⟩
theorem lc_run {J : It} {n : Nat} {g : TG} {tt : TT} {te : TE} {vs : List Nat} {σ : L2.St} {H1 : Hp} {R : Hp → Prop} {D : Addr} (Pv : Nat → List V → Hp → Prop) (h0 : Pv 0 [] (upd H1 D (.lst [])))
    (hstop : ∀ H acc, Pv n acc H → J.stop n H) (hgo : ∀ i H acc, i < n → Pv i acc H → J.go i H)
    (turn : ∀ i H acc, i < n → H D = some (.lst acc) → acc.length ≤ i → Pv i acc H → ∀ x H', J.yld i H x H' → g x (wipe σ vs) H' fun σ2 H2 => wipe σ2 vs = wipe σ vs ∧ tt σ2 H2 fun b H3 =>
      if b = true then te σ2 H3 fun y H4 => ∃ acc, H4 D = some (.lst acc) ∧ acc.length < sizeLine ∧ LcN D Pv i (upd H4 D (.lst (acc ++ [y]))) else LcN D Pv i H3)
    (done : ∀ H acc, H D = some (.lst acc) → acc.length ≤ n → Pv n acc H → R H) :
    ∃ W : Nat → Nat → Hp → Prop, (∃ m, W 0 m (upd H1 D (.lst []))) ∧ ∀ i m H, W i m H →
      (J.stop i H ∧ R H) ∨ (J.go i H ∧ ∃ Nx : Hp → Prop, (∀ H', Nx H' → ∃ m', m' < m ∧ W (i + 1) m' H') ∧ ∀ x H', J.yld i H x H' → g x (wipe σ vs) H' fun σ2 H2 => wipe σ2 vs = wipe σ vs ∧ tt σ2 H2 fun b H3 =>
        if b = true then te σ2 H3 fun y H4 => ∃ acc, H4 D = some (.lst acc) ∧ acc.length < sizeLine ∧ Nx (upd H4 D (.lst (acc ++ [y]))) else Nx H3) := by
  refine ⟨fun i m H => m = n - i ∧ i ≤ n ∧ ∃ acc, H D = some (.lst acc) ∧ acc.length ≤ i ∧ Pv i acc H, ⟨n, by simp, Nat.zero_le _, [], upd_same, Nat.zero_le _, h0⟩, ?_⟩
  rintro i m H ⟨rfl, hi, acc, hD, hl, p⟩
  by_cases hlt : i < n
  · exact .inr ⟨hgo i H acc hlt p, LcN D Pv i, fun H' ⟨acc', q1, q2, q3⟩ => ⟨n - (i + 1), by omega, rfl, hlt, acc', q1, q2, q3⟩, turn i H acc hlt hD hl p⟩
  · have e : i = n := by omega
    subst e
    exact .inl ⟨hstop H acc p, done H acc hD hl p⟩
/-- over a list that stays as it is -/
theorem lc_list {K : PySem.W.Frag} {a : Addr} {xs : List V} {g : TG} {tt : TT} {te : TE} {vs : List Nat} {σ : L2.St} {H1 : Hp} {R : Hp → Prop} {D : Addr} (Pv : Nat → List V → Hp → Prop) (h0 : Pv 0 [] (upd H1 D (.lst [])))
    (hS : ∀ i H acc, Pv i acc H → SqL K H a xs)
    (turn : ∀ i H acc x, i < xs.length → xs[i]? = some x → H D = some (.lst acc) → acc.length ≤ i → Pv i acc H → g x (wipe σ vs) H fun σ2 H2 => wipe σ2 vs = wipe σ vs ∧ tt σ2 H2 fun b H3 =>
      if b = true then te σ2 H3 fun y H4 => ∃ acc, H4 D = some (.lst acc) ∧ acc.length < sizeLine ∧ LcN D Pv i (upd H4 D (.lst (acc ++ [y]))) else LcN D Pv i H3)
    (done : ∀ H acc, H D = some (.lst acc) → acc.length ≤ xs.length → Pv xs.length acc H → R H) :
    ∃ W : Nat → Nat → Hp → Prop, (∃ m, W 0 m (upd H1 D (.lst []))) ∧ ∀ i m H, W i m H →
      ((Itl K a).stop i H ∧ R H) ∨ ((Itl K a).go i H ∧ ∃ Nx : Hp → Prop, (∀ H', Nx H' → ∃ m', m' < m ∧ W (i + 1) m' H') ∧ ∀ x H', (Itl K a).yld i H x H' → g x (wipe σ vs) H' fun σ2 H2 => wipe σ2 vs = wipe σ vs ∧ tt σ2 H2 fun b H3 =>
        if b = true then te σ2 H3 fun y H4 => ∃ acc, H4 D = some (.lst acc) ∧ acc.length < sizeLine ∧ Nx (upd H4 D (.lst (acc ++ [y]))) else Nx H3) := by
  refine lc_run (n := xs.length) Pv h0 (fun H acc p => ⟨xs, hS _ _ _ p, Nat.le_refl _⟩) (fun i H acc hi p => ⟨xs, xs[i], hS _ _ _ p, List.getElem?_eq_getElem hi⟩) (fun i H acc hi hD hl p x H' y => ?_) done
  obtain ⟨e, y⟩ := y
  subst e
  exact turn i _ acc x hi (y xs (hS _ _ _ p)) hD hl p
theorem lc_range {lo : Int} {n : Nat} {g : TG} {tt : TT} {te : TE} {vs : List Nat} {σ : L2.St} {H1 : Hp} {R : Hp → Prop} {D : Addr} (Pv : Nat → List V → Hp → Prop) (h0 : Pv 0 [] (upd H1 D (.lst [])))
    (turn : ∀ i H acc, i < n → H D = some (.lst acc) → acc.length ≤ i → Pv i acc H → g (.int (lo + i)) (wipe σ vs) H fun σ2 H2 => wipe σ2 vs = wipe σ vs ∧ tt σ2 H2 fun b H3 =>
      if b = true then te σ2 H3 fun y H4 => ∃ acc, H4 D = some (.lst acc) ∧ acc.length < sizeLine ∧ LcN D Pv i (upd H4 D (.lst (acc ++ [y]))) else LcN D Pv i H3)
    (done : ∀ H acc, H D = some (.lst acc) → acc.length ≤ n → Pv n acc H → R H) :
    ∃ W : Nat → Nat → Hp → Prop, (∃ m, W 0 m (upd H1 D (.lst []))) ∧ ∀ i m H, W i m H →
      ((Itr lo n).stop i H ∧ R H) ∨ ((Itr lo n).go i H ∧ ∃ Nx : Hp → Prop, (∀ H', Nx H' → ∃ m', m' < m ∧ W (i + 1) m' H') ∧ ∀ x H', (Itr lo n).yld i H x H' → g x (wipe σ vs) H' fun σ2 H2 => wipe σ2 vs = wipe σ vs ∧ tt σ2 H2 fun b H3 =>
        if b = true then te σ2 H3 fun y H4 => ∃ acc, H4 D = some (.lst acc) ∧ acc.length < sizeLine ∧ Nx (upd H4 D (.lst (acc ++ [y]))) else Nx H3) := by
  refine lc_run (n := n) Pv h0 (fun H acc p => Nat.le_refl _) (fun i H acc hi p => hi) (fun i H acc hi hD hl p x H' y => ?_) done
  obtain ⟨e, y⟩ := y
  subst e
  subst y
  exact turn i _ acc hi hD hl p
theorem lc_rangeC {lo c : Int} {n : Nat} {g : TG} {tt : TT} {te : TE} {vs : List Nat} {σ : L2.St} {H1 : Hp} {R : Hp → Prop} {D : Addr} (Pv : Nat → List V → Hp → Prop) (h0 : Pv 0 [] (upd H1 D (.lst [])))
    (turn : ∀ i H acc, i < n → H D = some (.lst acc) → acc.length ≤ i → Pv i acc H → g (.int (lo + (i : Nat) * c)) (wipe σ vs) H fun σ2 H2 => wipe σ2 vs = wipe σ vs ∧ tt σ2 H2 fun b H3 =>
      if b = true then te σ2 H3 fun y H4 => ∃ acc, H4 D = some (.lst acc) ∧ acc.length < sizeLine ∧ LcN D Pv i (upd H4 D (.lst (acc ++ [y]))) else LcN D Pv i H3)
    (done : ∀ H acc, H D = some (.lst acc) → acc.length ≤ n → Pv n acc H → R H) :
    ∃ W : Nat → Nat → Hp → Prop, (∃ m, W 0 m (upd H1 D (.lst []))) ∧ ∀ i m H, W i m H →
      ((Itc lo c n).stop i H ∧ R H) ∨ ((Itc lo c n).go i H ∧ ∃ Nx : Hp → Prop, (∀ H', Nx H' → ∃ m', m' < m ∧ W (i + 1) m' H') ∧ ∀ x H', (Itc lo c n).yld i H x H' → g x (wipe σ vs) H' fun σ2 H2 => wipe σ2 vs = wipe σ vs ∧ tt σ2 H2 fun b H3 =>
        if b = true then te σ2 H3 fun y H4 => ∃ acc, H4 D = some (.lst acc) ∧ acc.length < sizeLine ∧ Nx (upd H4 D (.lst (acc ++ [y]))) else Nx H3) := by
  refine lc_run (n := n) Pv h0 (fun H acc p => Nat.le_refl _) (fun i H acc hi p => hi) (fun i H acc hi hD hl p x H' y => ?_) done
  obtain ⟨e, y⟩ := y
  subst e
  subst y
  exact turn i _ acc hi hD hl p
/-- enumerate: each item in a new pair at T -/
theorem lc_enum {K : PySem.W.Frag} {a : Addr} {xs : List V} {g : TG} {tt : TT} {te : TE} {vs : List Nat} {σ : L2.St} {H1 : Hp} {R : Hp → Prop} {D : Addr} (Pv : Nat → List V → Hp → Prop) (h0 : Pv 0 [] (upd H1 D (.lst [])))
    (hS : ∀ i H acc, Pv i acc H → SqL K H a xs)
    (turn : ∀ i H acc x T, i < xs.length → xs[i]? = some x → H D = some (.lst acc) → acc.length ≤ i → Pv i acc H → H T = none → g (.ref T) (wipe σ vs) (upd H T (.tup [.int (i : Nat), x])) fun σ2 H2 => wipe σ2 vs = wipe σ vs ∧ tt σ2 H2 fun b H3 =>
      if b = true then te σ2 H3 fun y H4 => ∃ acc, H4 D = some (.lst acc) ∧ acc.length < sizeLine ∧ LcN D Pv i (upd H4 D (.lst (acc ++ [y]))) else LcN D Pv i H3)
    (done : ∀ H acc, H D = some (.lst acc) → acc.length ≤ xs.length → Pv xs.length acc H → R H) :
    ∃ W : Nat → Nat → Hp → Prop, (∃ m, W 0 m (upd H1 D (.lst []))) ∧ ∀ i m H, W i m H →
      ((Ite K a).stop i H ∧ R H) ∨ ((Ite K a).go i H ∧ ∃ Nx : Hp → Prop, (∀ H', Nx H' → ∃ m', m' < m ∧ W (i + 1) m' H') ∧ ∀ x H', (Ite K a).yld i H x H' → g x (wipe σ vs) H' fun σ2 H2 => wipe σ2 vs = wipe σ vs ∧ tt σ2 H2 fun b H3 =>
        if b = true then te σ2 H3 fun y H4 => ∃ acc, H4 D = some (.lst acc) ∧ acc.length < sizeLine ∧ Nx (upd H4 D (.lst (acc ++ [y]))) else Nx H3) := by
  refine lc_run (n := xs.length) Pv h0 (fun H acc p => ⟨xs, hS _ _ _ p, Nat.le_refl _⟩) (fun i H acc hi p => ⟨xs, xs[i], hS _ _ _ p, List.getElem?_eq_getElem hi⟩) (fun i H acc hi hD hl p x H' y => ?_) done
  obtain ⟨T, v, rfl, hT, rfl, y⟩ := y
  exact turn i H acc v T hi (y xs (hS _ _ _ p)) hD hl p hT

/-! ### what stands at the top -/
/-- a whole number of the module -/
def Kc (mg : Str → Option Value) (x : Str) (z : Int) : Prop := ∃ t, mg x = some (.int z t)
theorem pe_kc {X : Cx} {x : Str} {z : Int} {pos : Pos} (c : Kc X.mg x z) (hg : Gl X x) (hd : (x == ("__debug__" : Str)) = false := by decide) : PE X (.Name x pos) (tC (.int z)) := by
  obtain ⟨t, e⟩ := c
  exact pe_glob hg e ⟨t, rfl⟩ hd
structure Txt (K : PySem.W.Frag) (mg : Str → Option Value) (CR CM CB : Addr) : Prop where
  clR : Cls K CR
  clM : Cls K CM
  clB : Cls K CB
  nCalls : NoAttr K CR "calls"
  nAt : NoAttr K CR "at"
  nKinds : NoAttr K CM "kinds"
  nTilts : NoAttr K CM "tilts"
  nSides : NoAttr K CM "sides"
  nFlips : NoAttr K CM "flips"
  nEntries : NoAttr K CM "entries"
  nLevers : NoAttr K CM "levers"
  nMach : NoAttr K CB "machine"
  mgR : mg "Reader" = some (.ref CR)
  mgM : mg "Machine" = some (.ref CM)
  mgB : mg "Board" = some (.ref CB)
  len : mg "len" = none
  sum : mg "sum" = none
  enm : mg "enumerate" = none
  rng : mg "range" = none
  all : mg "all" = none
  any : mg "any" = none
  mx : mg "max" = none
  kBuild : Kc mg "BUILD" 0
  kDrop : Kc mg "DROP" 1
  kMany : Kc mg "MANY" 2
  kRun : Kc mg "RUN" 3
  kBack : Kc mg "BACK" 4
  kTilt : Kc mg "TILT" 5
  kState : Kc mg "STATE" 6
  kNot : Kc mg "NOT_AS_TOLD" (-22)
  kGeared : Kc mg "HAS_GEARED" (-33)
  kMost : Kc mg "MOST_GATES" 64
  kFour : Kc mg "GATE_NUMBERS" 4
  kExit : Kc mg "FIRST_EXIT" 64
  kExits : Kc mg "EXITS" 16
  kEntries : Kc mg "ENTRIES" 4
  kNone : Kc mg "NO_ENTRY" 4
  kInRun : Kc mg "MOST_IN_A_RUN" 10000
  kTilts : Kc mg "TILTS" 0
  kStays : Kc mg "STAYS" 1
  kSet : Kc mg "FIRST_SET" 2
  kLast : Kc mg "LAST_SET" 9
  kRight : Kc mg "RIGHT" 1
/-! ### the text by places -/
def top (i : Nat) : Stmt := PySem.Challenge.pw_marblegates_s01_answers.main.body.getD i (.Pass ⟨0, 0, 0, 0⟩)
end Mg
set_option Elab.async false
set_option linter.all false
set_option maxRecDepth 100000
set_option maxHeartbeats 2000000
/-! Marbles: the Reader, the Board, the small tests. -/
namespace Mg
open PySem PySem.Spec PyProof.Rows L2
abbrev sRInit : Stmt := inClass (top 22) 0
abbrev sRMore : Stmt := inClass (top 22) 1
abbrev sRNum : Stmt := inClass (top 22) 2
abbrev sRRow : Stmt := inClass (top 22) 3
abbrev sBInit : Stmt := inClass (top 24) 0
abbrev sExit : Stmt := top 27
abbrev sPlace : Stmt := top 28
abbrev sGate : Stmt := top 29
abbrev sEntry : Stmt := top 31
/-! ### promises -/
def spRInit (CR : Addr) : Sp := fun vs H Q _ => ∃ (p dx a : Addr), vs = [.ref p, .ref a] ∧ H p = some (.ins CR dx []) ∧ ∀ H' : Hp, RdAt CR H' p a 0 → But p H H' → Q .non H'
def spBInit (CB : Addr) : Sp := fun vs H Q _ => ∃ (p dx : Addr), vs = [.ref p] ∧ H p = some (.ins CB dx []) ∧ ∀ H' : Hp, (∃ d, H' p = some (.ins CB d (bdF .non))) → But p H H' → Q .non H'
def spMore (K : PySem.W.Frag) (CR : Addr) : Sp := fun vs H Q _ => ∃ (r a : Addr) (k : Nat) (xs : List V), vs = [.ref r] ∧ RdAt CR H r a k ∧ SqL K H a xs ∧ Q (.bl (decide ((k : Int) < (xs.length : Int)))) H
def spNum (K : PySem.W.Frag) (CR : Addr) : Sp := fun vs H Q _ => ∃ (r a : Addr) (k : Nat) (xs : List V) (v : V), vs = [.ref r] ∧ RdAt CR H r a k ∧ SqL K H a xs ∧ xs[k]? = some v ∧
  ∀ H' : Hp, RdAt CR H' r a (k + 1) → But r H H' → Q v H'
def spRow (K : PySem.W.Frag) (CR : Addr) : Sp := fun vs H Q _ => ∃ (r a : Addr) (k n : Nat) (xs : List V), vs = [.ref r] ∧ RdAt CR H r a k ∧ SqL K H a xs ∧ xs[k]? = some (iv n) ∧ k + 1 + n ≤ xs.length ∧
  ∀ (H' : Hp) (p : Addr), RdAt CR H' r a (k + 1 + n) → But r H H' → H p = none → H' p = some (.lst ((xs.drop (k + 1)).take n)) → Q (.ref p) H'
def spExit : Sp := fun vs H Q _ => ∃ z : Int, vs = [.int z] ∧ Q (.bl (exB z)) H
def spPlace : Sp := fun vs H Q _ => ∃ z f n : Int, vs = [.int z, .int f, .int n] ∧ Q (.bl (plB z f n)) H
def spGate : Sp := fun vs H Q _ => ∃ (q : Addr) (a b c d i n : Int), vs = [.ref q, .int i, .int n] ∧ H q = some (.lst [.int a, .int b, .int c, .int d]) ∧ Q (.bl (gtB a b c d i n)) H
def spEntry : Sp := fun vs H Q _ => ∃ z : Int, vs = [.int z] ∧ Q (.bl (decide (z < 4))) H
section
variable {P : Program} {w : World} {K : PySem.W.Frag} {mg : Str → Option Value} {base : Heap} {CR CM CB : Addr}

theorem scRI : FnScope ["self", "calls"] ["self", "calls"] (defScope sRInit) := ⟨rfl, rfl, rfl, by decide +kernel, rfl, by decide +kernel, by decide +kernel⟩
theorem ok_rinit (D : Di K CR "Reader.__init__" sRInit ["self", "calls"]) (T : Txt K mg CR CM CB) : CalI P w K mg base CR 1 ["self", "calls"] (spRInit CR) := by
  refine D.ok scRI (fun vs H Q E h => ?_) (fun f cdv A outer s H vs Q E hr h => ?_)
  · obtain ⟨p, dx, a, rfl, _⟩ := h
    rfl
  · obtain ⟨p, dx, a, rfl, hp, k⟩ := h
    refine ⟨_, pss_cons (ps_fld (pv 0) (pv 1) rfl) (pss_one (ps_fld (pv 0) pe_int rfl)), ?_⟩
    refine ⟨_, rfl, _, rfl, p, CR, dx, [], rfl, hp, T.clR, T.nCalls, (by show 0 < 1000; decide), ?_⟩
    refine ⟨_, rfl, p, CR, dx, _, rfl, upd_same, T.clR, T.nAt, (by show 1 < 1000; decide), ?_⟩
    exact k _ ⟨dx, upd_same⟩ fun b o e hb => by rw [upd_ne hb, upd_ne hb]; exact e
theorem scBI : FnScope ["self"] ["self"] (defScope sBInit) := ⟨rfl, rfl, rfl, by decide +kernel, rfl, by decide +kernel, by decide +kernel⟩
theorem ok_binit (D : Di K CB "Board.__init__" sBInit ["self"]) (T : Txt K mg CR CM CB) : CalI P w K mg base CB 1 ["self"] (spBInit CB) := by
  refine D.ok scBI (fun vs H Q E h => ?_) (fun f cdv A outer s H vs Q E hr h => ?_)
  · obtain ⟨p, dx, rfl, _⟩ := h
    rfl
  · obtain ⟨p, dx, rfl, hp, k⟩ := h
    refine ⟨_, pss_one (ps_fld (pv 0) pe_non rfl), ?_⟩
    refine ⟨_, rfl, p, CB, dx, [], rfl, hp, T.clB, T.nMach, (by show 0 < 1000; decide), ?_⟩
    exact k _ ⟨dx, upd_same⟩ (But.upd _ _ _)
theorem scRM : FnScope ["self"] ["self"] (defScope sRMore) := ⟨rfl, rfl, rfl, by decide +kernel, rfl, by decide +kernel, by decide +kernel⟩
theorem ok_more (D : Dm K CR "has_more" "Reader.has_more" sRMore ["self"]) (T : Txt K mg CR CM CB) : CalM P w K mg base CR "has_more" 1 ["self"] (spMore K CR) := by
  refine D.ok scRM (fun vs H Q E h => ?_) (fun f cdv A outer s H vs Q E hr h => ?_)
  · obtain ⟨r, a, k, xs, rfl, _⟩ := h
    rfl
  · obtain ⟨r, a, k, xs, rfl, ⟨dx, hr'⟩, hS, q⟩ := h
    refine ⟨_, pss_one (ps_ret (pe_cmpR op_lt (pe_fld (pv 0) rfl) (pe_callB call_len_seq (by rfl) T.len PySem.boot_len (pa_cons (pe_fld (pv 0) rfl) pa_nil)) (nomark _))), ?_⟩
    refine ⟨_, rfl, r, CR, dx, _, _, rfl, hr', T.clR, T.nAt, rd_at, _, rfl, r, CR, dx, _, _, rfl, hr', T.clR, T.nCalls, rd_calls, a, xs, rfl, .inl hS, _, _, rfl, rfl, ?_⟩
    exact q
theorem scRN : FnScope ["self", "number"] ["self"] (defScope sRNum) := ⟨rfl, rfl, rfl, by decide +kernel, rfl, by decide +kernel, by decide +kernel⟩
theorem ok_num (D : Dm K CR "take_number" "Reader.take_number" sRNum ["self"]) (T : Txt K mg CR CM CB) : CalM P w K mg base CR "take_number" 1 ["self"] (spNum K CR) := by
  refine D.ok scRN (fun vs H Q E h => ?_) (fun f cdv A outer s H vs Q E hr h => ?_)
  · obtain ⟨r, a, k, xs, v, rfl, _⟩ := h
    rfl
  · obtain ⟨r, a, k, xs, v, rfl, ⟨dx, hr'⟩, hS, hx, q⟩ := h
    refine ⟨_, pss_cons (ps_set (i := 1) scRN.nd rfl (Or.inl rfl) (pe_ix ix_list (pe_fld (pv 0) rfl) (pe_fld (pv 0) rfl) (fun _ _ => rfl))) (pss_cons (ps_fldaug (pv 0) pe_int in_add) (pss_one (ps_ret (pv 1)))), ?_⟩
    refine ⟨_, rfl, r, CR, dx, _, _, rfl, hr', T.clR, T.nCalls, rd_calls, _, rfl, r, CR, dx, _, _, rfl, hr', T.clR, T.nAt, rd_at, a, xs, _, v, rfl, rfl, hS, atI_nat hx, ?_⟩
    refine ⟨_, rfl, r, CR, dx, _, _, rfl, hr', T.clR, T.nAt, rd_at, _, _, rfl, rfl, dx, _, hr', (by show 2 < 1000; decide), _, rfl, ?_⟩
    exact q _ ⟨dx, upd_same⟩ (But.upd _ _ _)
theorem scRR : FnScope ["self", "size", "row"] ["self"] (defScope sRRow) := ⟨rfl, rfl, rfl, by decide +kernel, rfl, by decide +kernel, by decide +kernel⟩
theorem cutV_take (xs : List V) (k n : Nat) (h : k + n ≤ xs.length) : cutV xs (some (k : Int)) (some ((k : Int) + (n : Int))) = (xs.drop k).take n := by
  have e1 : HT.sIx xs.length 0 (some (k : Int)) = k := by
    simp only [HT.sIx]; rw [if_neg (by omega)]; omega
  have e2 : HT.sIx xs.length xs.length (some ((k : Int) + (n : Int))) = k + n := by
    simp only [HT.sIx]; rw [if_neg (by omega)]; omega
  unfold cutV
  rw [e1, e2, Nat.add_sub_cancel_left]
theorem ok_row (D : Dm K CR "take_row" "Reader.take_row" sRRow ["self"]) (T : Txt K mg CR CM CB) (cN : CalM P w K mg base CR "take_number" 1 ["self"] (spNum K CR)) : CalM P w K mg base CR "take_row" 2 ["self"] (spRow K CR) := by
  refine D.ok scRR (fun vs H Q E h => ?_) (fun f cdv A outer s H vs Q E hr h => ?_)
  · obtain ⟨r, a, k, n, xs, rfl, _⟩ := h
    rfl
  · obtain ⟨r, a, k, n, xs, rfl, ⟨dx, hr'⟩, hS, hx, hl, q⟩ := h
    refine ⟨_, pss_cons (ps_set (i := 1) scRR.nd rfl (Or.inl rfl) (pe_calM cN (pv 0) T.clR hr))
      (pss_cons (ps_set (i := 2) scRR.nd rfl (Or.inl rfl) (pe_slice sl_list (pe_fld (pv 0) rfl) (po_some (pe_fld (pv 0) rfl)) (po_some (pe_op op_add (pe_fld (pv 0) rfl) (pv 1)))))
      (pss_cons (ps_fldaug (pv 0) (pv 1) in_add) (pss_one (ps_ret (pv 2))))), ?_⟩
    refine ⟨_, rfl, r, dx, _, rfl, hr', rfl, r, a, k, xs, _, rfl, ⟨dx, hr'⟩, hS, hx, fun H1 ⟨d1, h1⟩ b1 => ?_⟩
    have hS1 : SqL K H1 a xs := b1.seq hr' hS
    refine ⟨_, rfl, r, CR, d1, _, _, rfl, h1, T.clR, T.nCalls, rd_calls, _, rfl, r, CR, d1, _, _, rfl, h1, T.clR, T.nAt, rd_at, _, rfl, _, rfl, r, CR, d1, _, _, rfl, h1, T.clR, T.nAt, rd_at, _, rfl, _, _, rfl, rfl, _, rfl, a, xs, rfl, hS1, fun p hp => ?_⟩
    have npr : r ≠ p := ne_of_none h1 hp
    have h2 : upd H1 p (.lst (cutV xs (some ((k + 1 : Nat) : Int)) (some (((k + 1 : Nat) : Int) + (n : Int))))) r = some (.ins CR d1 (rdF a ((k + 1 : Nat) : Int))) := by rw [upd_ne npr]; exact h1
    refine ⟨_, rfl, r, CR, d1, _, _, rfl, h2, T.clR, T.nAt, rd_at, _, rfl, _, _, rfl, rfl, d1, _, h2, (by show 2 < 1000; decide), _, rfl, ?_⟩
    refine q _ p ⟨d1, upd_same⟩ (fun b o e hb => ?_) ?_ ?_
    · have e1 := b1 b o e hb
      rw [upd_ne hb, upd_ne (ne_of_none e1 hp)]; exact e1
    · cases z : H p with
      | none => rfl
      | some o => rw [b1 p o z (Ne.symm npr)] at hp; cases hp
    · rw [upd_ne (Ne.symm npr), upd_same, cutV_take _ _ _ hl]
theorem scEx : FnScope ["place"] ["place"] (defScope sExit) := ⟨rfl, rfl, rfl, by decide +kernel, rfl, by decide +kernel, by decide +kernel⟩
theorem ok_exit (D : Dn K mg "is_exit" sExit ["place"]) (T : Txt K mg CR CM CB) : Cal P w K mg base "is_exit" 1 ["place"] spExit := by
  refine D.ok scEx (fun vs H Q E h => ?_) (fun f cdv A outer s H vs Q E hr h => ?_)
  · obtain ⟨z, rfl, _⟩ := h
    rfl
  · obtain ⟨z, rfl, q⟩ := h
    refine ⟨_, pss_one (ps_ret (pe_chain op_le op_lt (pe_kc T.kExit rfl) (pv 0) (pe_op op_add (pe_kc T.kExit rfl) (pe_kc T.kExits rfl)))), ?_⟩
    refine ⟨_, rfl, _, _, rfl, rfl, _, rfl, ?_⟩
    refine ite2 (fun h1 => ?_) (fun h1 => ?_)
    · refine ⟨_, _, rfl, rfl, _, _, rfl, rfl, ?_⟩
      unfold exB at q
      rw [h1, Bool.true_and] at q
      exact q
    · unfold exB at q
      rw [Bool.eq_false_iff.mpr h1, Bool.false_and] at q
      exact q
theorem scPl : FnScope ["place", "first", "size"] ["place", "first", "size"] (defScope sPlace) := ⟨rfl, rfl, rfl, by decide +kernel, rfl, by decide +kernel, by decide +kernel⟩
theorem ok_place (D : Dn K mg "is_place_from" sPlace ["place", "first", "size"]) (T : Txt K mg CR CM CB) (cE : Cal P w K mg base "is_exit" 1 ["place"] spExit) : Cal P w K mg base "is_place_from" 2 ["place", "first", "size"] spPlace := by
  refine D.ok scPl (fun vs H Q E h => ?_) (fun f cdv A outer s H vs Q E hr h => ?_)
  · obtain ⟨z, g, n, rfl, _⟩ := h
    rfl
  · obtain ⟨z, g, n, rfl, q⟩ := h
    unfold plB at q
    refine ⟨_, pss_one (ps_ret (pe_or (pe_chain op_le op_lt (pv 1) (pv 0) (pv 2)) (pe_one (pe_cal cE hr rfl (pa_cons (pv 0) pa_nil))))), ?_⟩
    refine ⟨_, rfl, _, rfl, _, _, rfl, rfl, _, rfl, ?_⟩
    refine ite2 (fun h1 => ?_) (fun h1 => ?_)
    · refine ⟨_, rfl, _, _, rfl, rfl, _, rfl, ?_⟩
      rw [h1, Bool.true_and] at q
      refine ite2 (fun h2 => ?_) (fun h2 => ?_)
      · rw [h2, Bool.true_or] at q
        exact q
      · rw [Bool.eq_false_iff.mpr h2, Bool.false_or] at q
        exact ⟨_, rfl, z, rfl, q⟩
    · refine ⟨_, rfl, ?_⟩
      rw [Bool.eq_false_iff.mpr h1, Bool.false_and, Bool.false_or] at q
      exact iteF ⟨_, rfl, z, rfl, q⟩
theorem scGt : FnScope ["gate", "number", "size"] ["gate", "number", "size"] (defScope sGate) := ⟨rfl, rfl, rfl, by decide +kernel, rfl, by decide +kernel, by decide +kernel⟩
theorem ok_gate (D : Dn K mg "is_gate" sGate ["gate", "number", "size"]) (T : Txt K mg CR CM CB) (cP : Cal P w K mg base "is_place_from" 2 ["place", "first", "size"] spPlace) : Cal P w K mg base "is_gate" 3 ["gate", "number", "size"] spGate := by
  refine D.ok scGt (fun vs H Q E h => ?_) (fun f cdv A outer s H vs Q E hr h => ?_)
  · obtain ⟨z, a, b, c, d, i, n, rfl, _⟩ := h
    rfl
  · obtain ⟨z, a, b, c, d, i, n, rfl, hz, q⟩ := h
    unfold gtB at q
    refine ⟨_, pss_one (ps_ret (pe_and (pe_cmpR op_le (pe_ix ix_list (pv 0) pe_int (fun _ _ => rfl)) (pe_kc T.kLast rfl) (nomark _))
      (pe_and (pe_cmpR op_le (pe_ix ix_list (pv 0) pe_int (fun _ _ => rfl)) (pe_kc T.kRight rfl) (nomark _))
      (pe_and (pe_cal cP hr rfl (pa_cons (pe_ix ix_list (pv 0) pe_int (fun _ _ => rfl)) (pa_cons (pe_op op_add (pv 1) pe_int) (pa_cons (pv 2) pa_nil))))
      (pe_one (pe_cal cP hr rfl (pa_cons (pe_ix ix_list (pv 0) pe_int (fun _ _ => rfl)) (pa_cons (pe_op op_add (pv 1) pe_int) (pa_cons (pv 2) pa_nil))))))))), ?_⟩
    refine ⟨_, rfl, z, _, _, _, rfl, rfl, SqL.of hz, at_of (j := 0) rfl rfl, _, _, rfl, rfl, _, rfl, ?_⟩
    refine ite2 (fun h1 => ?_) (fun h1 => ?_)
    · rw [h1, Bool.true_and] at q
      refine ⟨_, rfl, z, _, _, _, rfl, rfl, SqL.of hz, at_of (j := 1) rfl rfl, _, _, rfl, rfl, _, rfl, ?_⟩
      refine ite2 (fun h2 => ?_) (fun h2 => ?_)
      · rw [h2, Bool.true_and] at q
        refine ⟨_, rfl, z, _, _, _, rfl, rfl, SqL.of hz, at_of (j := 2) rfl rfl, _, rfl, _, _, rfl, rfl, _, rfl, _, _, _, rfl, _, rfl, ?_⟩
        refine ite2 (fun h3 => ?_) (fun h3 => ?_)
        · rw [h3, Bool.true_and] at q
          exact ⟨_, rfl, z, _, _, _, rfl, rfl, SqL.of hz, at_of (j := 3) rfl rfl, _, rfl, _, _, rfl, rfl, _, rfl, _, _, _, rfl, q⟩
        · rw [Bool.eq_false_iff.mpr h3, Bool.false_and] at q
          exact q
      · rw [Bool.eq_false_iff.mpr h2, Bool.false_and] at q
        exact q
    · rw [Bool.eq_false_iff.mpr h1, Bool.false_and] at q
      exact q
theorem scEn : FnScope ["entry"] ["entry"] (defScope sEntry) := ⟨rfl, rfl, rfl, by decide +kernel, rfl, by decide +kernel, by decide +kernel⟩
theorem ok_entry (D : Dn K mg "is_entry" sEntry ["entry"]) (T : Txt K mg CR CM CB) : Cal P w K mg base "is_entry" 1 ["entry"] spEntry := by
  refine D.ok scEn (fun vs H Q E h => ?_) (fun f cdv A outer s H vs Q E hr h => ?_)
  · obtain ⟨z, rfl, _⟩ := h
    rfl
  · obtain ⟨z, rfl, q⟩ := h
    refine ⟨_, pss_one (ps_ret (pe_cmpR op_lt (pv 0) (pe_kc T.kEntries rfl) (nomark _))), ?_⟩
    exact ⟨_, rfl, _, _, rfl, rfl, q⟩
end
end Mg
set_option Elab.async false
set_option linter.all false
set_option maxRecDepth 100000
set_option maxHeartbeats 2000000
/-! Marbles: a machine is told, looked at and made. -/
namespace Mg
open PySem PySem.Spec PyProof.Rows L2
abbrev sMInit : Stmt := inClass (top 23) 0
abbrev sFlip : Stmt := top 25
abbrev sSplit : Stmt := top 26
abbrev sIsM : Stmt := top 30
/-- the rows of gates -/
def QAt (H : Hp) (as : List Addr) (qs : List (List Int)) : Prop := as.length = qs.length ∧ ∀ (i : Nat) (a : Addr) (q : List Int), as[i]? = some a → qs[i]? = some q → H a = some (.lst (q.map V.int))
theorem QAt.same {H H' : Hp} {as : List Addr} {qs : List (List Int)} (h : QAt H as qs) (s : Same H H') : QAt H' as qs := ⟨h.1, fun i a q e1 e2 => s _ _ (h.2 i a q e1 e2)⟩
theorem QAt.but {p C dx : Addr} {fs : List (Str × V)} {H H' : Hp} {as : List Addr} {qs : List (List Int)} (h : QAt H as qs) (s : But p H H') (hp : H p = some (.ins C dx fs)) : QAt H' as qs := ⟨h.1, fun i a q e1 e2 => (Kl.but s hp).lst (h.2 i a q e1 e2)⟩
theorem QAt.at {H : Hp} {as : List Addr} {qs : List (List Int)} (h : QAt H as qs) (hq : Qs qs) {i : Nat} {x : V} (e : (as.map V.ref)[i]? = some x) :
    ∃ t a b c d, as[i]? = some t ∧ x = .ref t ∧ qs[i]? = some [a, b, c, d] ∧ H t = some (.lst [.int a, .int b, .int c, .int d]) ∧ (0 ≤ a ∧ a < 256) ∧ (0 ≤ b ∧ b < 256) ∧ (0 ≤ c ∧ c < 256) ∧ (0 ≤ d ∧ d < 256) := by
  rw [List.getElem?_map] at e
  obtain ⟨t, ht, rfl⟩ := Option.map_eq_some_iff.mp e
  have hi : i < qs.length := by rw [← h.1]; exact (List.getElem?_eq_some_iff.mp ht).1
  have e2 : qs[i]? = some qs[i] := List.getElem?_eq_getElem hi
  obtain ⟨a, b, c, d, e3, h1, h2, h3, h4⟩ := hq.at e2
  rw [e3] at e2
  exact ⟨t, a, b, c, d, ht, rfl, e2, h.2 i t _ ht e2, h1, h2, h3, h4⟩
/-! ### promises -/
def spFlip (K : PySem.W.Frag) : Sp := fun vs H Q _ => ∃ (l : Addr) (k : Nat) (ks : List Nat), vs = [.ref l, iv k] ∧ SqL K H l (ivs ks) ∧ k < ks.length ∧ ks.length ≤ 64 ∧ ∀ H' : Hp, Same H H' → Q (iv (flipN ks k)) H'
def spSplit (K : PySem.W.Frag) : Sp := fun vs H Q _ => ∃ (a : Addr) (g : List Int), vs = [.ref a] ∧ SqL K H a (g.map V.int) ∧ g.length % 4 = 0 ∧ g.length ≤ 512 ∧
  ∀ (H' : Hp) (p : Addr) (as : List Addr), Same H H' → H p = none → H' p = some (.lst (as.map V.ref)) → QAt H' as (quads g) → Q (.ref p) H'
def machB (qs : List (List Int)) (es vs : List Int) : Bool := decide (qs.length ≤ 64) && (((List.range qs.length).map (gtAt qs)).all id && ((es.map fun z => plB z 0 (qs.length : Int)).all id && (vs.map fun z => decide (z ≤ 4)).all id))
def spIsM (K : PySem.W.Frag) : Sp := fun vs H Q _ => ∃ (g e l : Addr) (as : List Addr) (qs : List (List Int)) (es ls : List Int), vs = [.ref g, .ref e, .ref l] ∧ H g = some (.lst (as.map V.ref)) ∧ QAt H as qs ∧ Qs qs ∧ qs.length ≤ 1000 ∧
  H e = some (.lst (es.map V.int)) ∧ es.length ≤ 1000 ∧ H l = some (.lst (ls.map V.int)) ∧ ls.length ≤ 1000 ∧ ∀ H' : Hp, Same H H' → Q (.bl (machB qs es ls)) H'
def spMInit (CM : Addr) : Sp := fun vs H Q _ => ∃ (p dx g e l : Addr) (as : List Addr) (qs : List (List Int)) (es ls : List Nat), vs = [.ref p, .ref g, .ref e, .ref l] ∧ H p = some (.ins CM dx []) ∧ H g = some (.lst (as.map V.ref)) ∧ QAt H as qs ∧ Qs qs ∧
  qs.length ≤ 64 ∧ H e = some (.lst (ivs es)) ∧ H l = some (.lst (ivs ls)) ∧ ∀ H' : Hp, MachAt CM H' p ⟨qs.map toGate, es, ls⟩ → But p H H' → Q .non H'
section
variable {P : Program} {w : World} {K : PySem.W.Frag} {mg : Str → Option Value} {base : Heap} {CR CM CB : Addr}
theorem scFl : FnScope ["kinds", "number", "kind", "other"] ["kinds", "number"] (defScope sFlip) := ⟨rfl, rfl, rfl, by decide +kernel, rfl, by decide +kernel, by decide +kernel⟩
theorem ok_flip (D : Dn K mg "flipped_behind" sFlip ["kinds", "number"]) (T : Txt K mg CR CM CB) : Cal P w K mg base "flipped_behind" 1 ["kinds", "number"] (spFlip K) := by
  refine D.ok scFl (fun vs H Q E h => ?_) (fun f cdv A outer s H vs Q E hr h => ?_)
  · obtain ⟨l, k, ks, rfl, _⟩ := h
    rfl
  · obtain ⟨l, k, ks, rfl, hS, hk, hn, q⟩ := h
    have hx : ks[k]? = some ks[k] := List.getElem?_eq_getElem hk
    generalize ks[k] = kd at hx
    have hkd : ks.getD k 1 = kd := by rw [List.getD_eq_getElem?_getD, hx]; rfl
    refine ⟨_, pss_cons (ps_set (i := 2) scFl.nd rfl (Or.inr rfl) (pe_ix ix_list (pv 0) (pv 1) (fun _ _ => rfl)))
      (pss_cons (ps_if (pt_cmpR op_eq (pv 2) (pe_kc T.kStays rfl) (nomark _)) (pss_one (ps_ret pe_int)) pss_nil)
      (pss_cons (ps_if (pt_cmpR op_eq (pv 2) (pe_kc T.kTilts rfl) (nomark _)) (pss_one (ps_ret (pe_op op_shl pe_int (pv 1)))) pss_nil)
      (pss_one (ps_ret (pe_callB (cr_sum rfl) (by rfl) T.sum boot_sum (pa_cons
        (pe_lc (own := [("other", 3)]) rfl scFl.nd (pi_range1 rfl T.rng (pa_cons (pe_callB call_len_seq (by rfl) T.len PySem.boot_len (pa_cons (pv 0) pa_nil)) pa_nil))
          (blk_of (by rfl))
          (fun _ _ _ _ _ => pg_name (i := 3) scFl.nd rfl (Or.inl rfl))
          (fun _ _ _ _ _ => pts_one (pt_cmpR op_eq (pe_ix (ixl (K := K)) (pv 0) (pv 3) (fun _ _ => rfl)) (pv 2) (nomark _)))
          (fun _ _ _ _ _ => pe_op op_shl pe_int (pv 3))) pa_nil)))))), ?_⟩
    refine ⟨_, rfl, _, rfl, l, _, _, _, rfl, rfl, hS, atI_nat (ivs_get hx), ?_⟩
    refine ⟨_, rfl, rfl, _, rfl, ite2 (fun h1 => ?_) (fun h1 => ?_)⟩
    · have h1 : kd = 1 := by
        have := of_decide_eq_true h1
        unfold iv at this
        injection this with z
        omega
      have := q H (Same.refl H)
      unfold flipN at this
      rw [if_pos (by rw [hkd]; exact h1)] at this
      exact this
    have h1 : ¬ kd = 1 := fun z => h1 (decide_eq_true (by rw [z]; rfl))
    refine ⟨_, rfl, rfl, _, rfl, ite2 (fun h2 => ?_) (fun h2 => ?_)⟩
    · have h2 : kd = 0 := by
        have := of_decide_eq_true h2
        unfold iv at this
        injection this with z
        omega
      refine ⟨_, rfl, _, _, rfl, rfl, ⟨Int.natCast_nonneg _, by omega, by decide⟩, ?_⟩
      have := q H (Same.refl H)
      unfold flipN at this
      rw [if_neg (by rw [hkd]; exact h1), if_pos (by rw [hkd]; exact h2)] at this
      unfold iv at this
      rw [Int.natCast_pow] at this
      show Q (V.int (1 * 2 ^ ((k : Int)).toNat)) H
      rw [Int.one_mul, Int.toNat_natCast]
      exact this
    have h2 : ¬ kd = 0 := fun z => h2 (decide_eq_true (by rw [z]; rfl))
    refine ⟨_, rfl, l, _, rfl, .inl hS, _, rfl, by omega, by rw [ivs_len]; omega, fun L hL => ?_⟩
    rw [Int.toNat_natCast, ivs_len]
    refine lc_range (lo := 0) (n := ks.length) (fun i acc H' => Same H H' ∧ ∃ ns : List Int, acc = ns.map V.int ∧ ns.sum = (bitsB ((ks.take i).map fun j => j == kd) : Int))
      ⟨Same.new hL, [], rfl, rfl⟩ (fun i H' acc hi hD hl ⟨s1, ns, e1, e2⟩ => ?_) (fun H' acc hD hl ⟨s1, ns, e1, e2⟩ => ?_)
    · have hx2 : ks[i]? = some ks[i] := List.getElem?_eq_getElem hi
      generalize ks[i] = kj at hx2
      refine ⟨rfl, _, rfl, _, rfl, l, _, _, _, rfl, rfl, s1.seq hS, at_of (j := i) (Int.zero_add _) (ivs_get hx2), _, rfl, rfl, _, rfl, ite2 (fun h3 => ?_) (fun h3 => ?_)⟩
      · have h3 : kj = kd := by
          have := of_decide_eq_true h3
          unfold iv at this
          injection this with z
          omega
        refine ⟨_, rfl, _, _, rfl, rfl, ⟨by omega, by omega, by decide⟩, ?_⟩
        refine lc_put hD hl (sz64 (by omega)) ⟨fun b o e => ?_, ns ++ [1 * 2 ^ ((0 : Int) + (i : Int)).toNat], ?_, ?_⟩
        · rw [upd_ne (ne_of_none e hL)]; exact s1 b o e
        · rw [e1, List.map_append]; rfl
        · rw [sum_snoc, e2, take_succ_of hx2, List.map_append, List.map_cons, List.map_nil, bitsB_snoc, List.length_map, List.length_take, Nat.min_eq_left (by omega), h3, beq_self_eq_true, Int.natCast_add, Int.natCast_mul, Int.natCast_pow, Int.zero_add, Int.toNat_natCast]
          rfl
      · have h3 : ¬ kj = kd := fun z => h3 (decide_eq_true (by rw [z]))
        refine ⟨acc, hD, by omega, s1, ns, e1, ?_⟩
        rw [e2, take_succ_of hx2, List.map_append, List.map_cons, List.map_nil, bitsB_snoc, beq_eq_false_iff_ne.mpr h3]
        simp
    · refine ⟨L, ns, rfl, SqL.of (by rw [hD, e1]), ?_⟩
      have := q H' s1
      unfold flipN at this
      rw [if_neg (by rw [hkd]; exact h1), if_neg (by rw [hkd]; exact h2), hkd] at this
      rw [e2, List.take_length]
      exact this
theorem scSp : FnScope ["numbers", "at"] ["numbers"] (defScope sSplit) := ⟨rfl, rfl, rfl, by decide +kernel, rfl, by decide +kernel, by decide +kernel⟩
theorem small4_all : ∀ i : Fin 513, Builtin.Range.small 0 (i.val : Int) 4 = true := by decide +kernel
theorem small4 (n : Nat) (h : n ≤ 512) : Builtin.Range.small 0 (n : Int) 4 = true := small4_all ⟨n, by omega⟩
theorem rgc4 {n : Nat} (h : n ≤ 512) (h4 : n % 4 = 0) : RgC 0 (n : Int) 4 (n / 4) := by
  have e : Builtin.Range.rangeSize 0 (n : Int) 4 = ((n / 4 : Nat) : Int) := by
    unfold Builtin.Range.rangeSize
    rw [if_pos (by decide)]
    split <;> omega
  exact ⟨by decide, by decide, small4 n h, e⟩
theorem ok_split (D : Dn K mg "split_gates" sSplit ["numbers"]) (T : Txt K mg CR CM CB) : Cal P w K mg base "split_gates" 1 ["numbers"] (spSplit K) := by
  refine D.ok scSp (fun vs H Q E h => ?_) (fun f cdv A outer s H vs Q E hr h => ?_)
  · obtain ⟨a, g, rfl, _⟩ := h
    rfl
  · obtain ⟨a, g, rfl, hS, h4, hl, q⟩ := h
    have hq := quads_len g h4
    refine ⟨_, pss_one (ps_ret (pe_lc (own := [("at", 1)]) rfl scSp.nd (pi_range3 rfl T.rng (pa_cons pe_int (pa_cons (pe_callB call_len_seq (by rfl) T.len PySem.boot_len (pa_cons (pv 0) pa_nil)) (pa_cons (pe_kc T.kFour rfl) pa_nil))))
          (blk_of (by rfl))
          (fun _ _ _ _ _ => pg_name (i := 1) scSp.nd rfl (Or.inl rfl)) (fun _ _ _ _ _ => pts_nil)
          (fun _ _ _ _ _ => pe_slice (sll (K := K)) (pv 0) (po_some (pv 1)) (po_some (pe_op op_add (pv 1) (pe_kc T.kFour rfl)))))), ?_⟩
    refine ⟨_, rfl, a, _, rfl, .inl hS, _, _, _, (quads g).length, rfl, ?_, fun L hL => ?_⟩
    · rw [List.length_map, show (quads g).length = g.length / 4 by omega]
      exact rgc4 hl h4
    refine lc_rangeC (lo := 0) (c := 4) (n := (quads g).length) (fun i acc H' => Same H H' ∧ ∃ as : List Addr, acc = as.map V.ref ∧ as.length = i ∧ (∀ c ∈ as, c ≠ L) ∧ ∀ (j : Nat) (c : Addr), as[j]? = some c → H' c = some (.lst (((g.drop (4 * j)).take 4).map V.int)))
      ⟨Same.new hL, [], rfl, rfl, (fun _ z => nomatch z), fun j c z => by simp at z⟩ (fun i H' acc hi hD hl2 ⟨s1, as, e1, e2, e3, e4⟩ => ?_) (fun H' acc hD hl2 ⟨s1, as, e1, e2, e3, e4⟩ => ?_)
    · refine ⟨rfl, yesT ⟨_, rfl, _, rfl, _, rfl, _, rfl, _, _, rfl, rfl, _, rfl, a, _, rfl, s1.seq hS, fun c hc => ?_⟩⟩
      have hcL : c ≠ L := fun z => by rw [z, hD] at hc; cases hc
      have ecut : cutV (g.map V.int) (some (0 + (i : Int) * 4)) (some (0 + (i : Int) * 4 + 4)) = ((g.drop (4 * i)).take 4).map V.int := by
        have z1 : (0 : Int) + (i : Int) * 4 = ((4 * i : Nat) : Int) := by omega
        rw [z1]
        have := cutV_take (g.map V.int) (4 * i) 4 (by rw [List.length_map]; omega)
        rw [List.map_take, List.map_drop]
        exact this
      refine lc_put (acc := acc) (by rw [upd_ne hcL.symm]; exact hD) (by omega) (sz64 (by omega)) ⟨fun b o e => ?_, as ++ [c], ?_, ?_, ?_, ?_⟩
      · have e' := s1 b o e
        rw [upd_ne (ne_of_none e hL), upd_ne (ne_of_none e' hc)]; exact e'
      · rw [e1, List.map_append]; rfl
      · rw [List.length_append, e2]; rfl
      · intro d hd
        rcases List.mem_append.mp hd with z | z
        · exact e3 d z
        · rw [List.mem_singleton.mp z]; exact hcL
      · intro j d hj
        by_cases hj2 : j < as.length
        · rw [List.getElem?_append_left hj2] at hj
          have hd := e4 j d hj
          rw [upd_ne (e3 d (List.mem_of_getElem? hj)), upd_ne (ne_of_none hd hc)]; exact hd
        · have hlt := (List.getElem?_eq_some_iff.mp hj).1
          rw [List.length_append, List.length_singleton] at hlt
          have ej : j = as.length := by omega
          subst ej
          rw [List.getElem?_append_right (Nat.le_refl _), Nat.sub_self] at hj
          have ed : c = d := Option.some.inj hj
          subst ed
          rw [upd_ne hcL, upd_same, ecut, e2]
    · refine q H' L as s1 hL (by rw [hD, e1]) ⟨e2, fun i c r h1 h2 => ?_⟩
      have hi := (List.getElem?_eq_some_iff.mp h2).1
      rw [quads_get g i h4 hi] at h2
      cases h2
      exact e4 i c h1
theorem scIM : FnScope ["gates", "entries", "levers", "size", "number", "gate", "place", "lever"] ["gates", "entries", "levers"] (defScope sIsM) := ⟨rfl, rfl, rfl, by decide +kernel, rfl, by decide +kernel, by decide +kernel⟩
theorem bl_snoc {f : Nat → Bool} (i : Nat) : (((List.range i).map f).map V.bl) ++ [V.bl (f i)] = ((List.range (i + 1)).map f).map V.bl := by
  rw [List.range_succ, List.map_append, List.map_append]; rfl
theorem mp_snoc {f : Int → Bool} {es : List Int} {i : Nat} {z : Int} (h : es[i]? = some z) : (((es.take i).map f).map V.bl) ++ [V.bl (f z)] = ((es.take (i + 1)).map f).map V.bl := by
  rw [take_succ_of h, List.map_append, List.map_append]; rfl
theorem ok_ism (D : Dn K mg "is_machine" sIsM ["gates", "entries", "levers"]) (T : Txt K mg CR CM CB) (cG : Cal P w K mg base "is_gate" 3 ["gate", "number", "size"] spGate)
    (cP : Cal P w K mg base "is_place_from" 2 ["place", "first", "size"] spPlace) : Cal P w K mg base "is_machine" 4 ["gates", "entries", "levers"] (spIsM K) := by
  refine D.ok scIM (fun vs H Q E h => ?_) (fun f cdv A outer s H vs Q E hr h => ?_)
  · obtain ⟨g, e, l, as, qs, es, ls, rfl, _⟩ := h
    rfl
  · obtain ⟨g, e, l, as, qs, es, ls, rfl, hg, hA, hQ, hq, he, hel, hl, hll, q⟩ := h
    have hlen : ((as.map V.ref).length : Int) = (qs.length : Int) := by rw [List.length_map, hA.1]
    refine ⟨_, pss_cons (ps_set (i := 3) scIM.nd rfl (Or.inr rfl) (pe_callB call_len_seq (by rfl) T.len PySem.boot_len (pa_cons (pv 0) pa_nil)))
      (pss_cons (ps_if (pt_cmpR op_gt (pv 3) (pe_kc T.kMost rfl) (nomark _)) (pss_one (ps_ret pe_bl)) pss_nil)
      (pss_one (ps_ret (pe_and
        (pe_callB (cr_all rfl) (by rfl) T.all boot_all (pa_cons
          (pe_lc (own := [("number", 4), ("gate", 5)]) rfl scIM.nd (pi_enum rfl T.enm (pa_cons (pv 0) pa_nil))
            (blk_of (by rfl))
            (fun _ _ _ _ _ => pg_tupK (K := K) (n := 2) rfl (pgs_cons (pg_name (i := 4) scIM.nd rfl (Or.inl rfl)) (pgs_cons (pg_name (i := 5) scIM.nd rfl (Or.inl rfl)) pgs_nil))) (fun _ _ _ _ _ => pts_nil)
            (fun _ _ _ _ _ => pe_cal cG hr rfl (pa_cons (pv 5) (pa_cons (pv 4) (pa_cons (pv 3) pa_nil))))) pa_nil))
        (pe_and
        (pe_callB (cr_all rfl) (by rfl) T.all boot_all (pa_cons
          (pe_lc (own := [("place", 6)]) rfl scIM.nd (pi_list (pv 1))
            (blk_of (by rfl))
            (fun _ _ _ _ _ => pg_name (i := 6) scIM.nd rfl (Or.inl rfl)) (fun _ _ _ _ _ => pts_nil)
            (fun _ _ _ _ _ => pe_cal cP (hr.mono (by decide)) rfl (pa_cons (pv 6) (pa_cons pe_int (pa_cons (pv 3) pa_nil))))) pa_nil))
        (pe_one
        (pe_callB (cr_all rfl) (by rfl) T.all boot_all (pa_cons
          (pe_lc (own := [("lever", 7)]) rfl scIM.nd (pi_list (pv 2))
            (blk_of (by rfl))
            (fun _ _ _ _ _ => pg_name (i := 7) scIM.nd rfl (Or.inl rfl)) (fun _ _ _ _ _ => pts_nil)
            (fun _ _ _ _ _ => pe_cmpR op_le (pv 7) (pe_kc T.kNone rfl) (nomark _))) pa_nil)))))))), ?_⟩
    refine ⟨_, rfl, g, _, rfl, .inl (SqL.of hg), ?_⟩
    rw [hlen]
    refine ⟨_, rfl, _, _, rfl, rfl, _, rfl, ite2 (fun h1 => ?_) (fun h1 => ?_)⟩
    · have h1 : (64 : Int) < (qs.length : Int) := of_decide_eq_true h1
      have := q H (Same.refl H)
      unfold machB at this
      rw [decide_eq_false (show ¬ qs.length ≤ 64 by omega), Bool.false_and] at this
      exact this
    have h1 : ¬ (64 : Int) < (qs.length : Int) := fun z => h1 (decide_eq_true z)
    unfold machB at q
    rw [decide_eq_true (show qs.length ≤ 64 by omega), Bool.true_and] at q
    -- the gates
    refine ⟨_, rfl, g, _, rfl, SqL.of hg, fun L hL => ?_⟩
    refine lc_enum (K := K) (a := g) (xs := as.map V.ref) (fun i acc H' => Same H H' ∧ acc = ((List.range i).map (gtAt qs)).map V.bl) ⟨Same.new hL, rfl⟩ (fun i H' acc ⟨s1, _⟩ => s1.seq (SqL.of hg))
      (fun i H' acc x U hi hx hD hl2 ⟨s1, e1⟩ hU => ?_) (fun H1 acc hD hl2 ⟨s1, e1⟩ => ?_)
    · obtain ⟨t, a, b, c, d, ht, rfl, hqi, hrow, _, _, _, _⟩ := (hA.same s1).at hQ hx
      have hLU : L ≠ U := fun z => by rw [← z, hD] at hU; cases hU
      have hrow2 : (upd H' U (.tup [.int (i : Nat), .ref t])) t = some (.lst [.int a, .int b, .int c, .int d]) := by rw [upd_ne (ne_of_none hrow hU)]; exact hrow
      refine ⟨U, _, rfl, SqT.of upd_same, rfl, _, _, rfl, _, _, rfl, rfl, rfl, yesT ⟨_, rfl, _, rfl, _, rfl, t, a, b, c, d, _, _, rfl, hrow2, ?_⟩⟩
      have ev : gtB a b c d (i : Int) (qs.length : Int) = gtAt qs i := by
        unfold gtAt
        rw [show qs.getD i [] = [a, b, c, d] by rw [List.getD_eq_getElem?_getD, hqi]; rfl]
        rfl
      rw [ev]
      refine lc_put (acc := acc) (by rw [upd_ne hLU]; exact hD) hl2 (sz64 (by rw [List.length_map, hA.1] at hi; omega)) ⟨fun b o e => ?_, ?_⟩
      · have e' := s1 b o e
        rw [upd_ne (ne_of_none e hL), upd_ne (ne_of_none e' hU)]; exact e'
      · rw [e1]; exact bl_snoc i
    rw [List.length_map, hA.1] at e1
    refine ⟨L, _, rfl, SqL.of (by rw [hD, e1]), _, rfl, ite2 (fun h2 => ?_) (fun h2 => ?_)⟩
    rotate_left
    · have := q H1 s1
      rw [Bool.eq_false_iff.mpr h2, Bool.false_and] at this
      exact this
    rw [h2, Bool.true_and] at q
    -- the entries
    refine ⟨_, rfl, e, rfl, ⟨_, SqL.of (s1 _ _ he)⟩, fun L2 hL2 => ?_⟩
    refine lc_list (K := K) (a := e) (xs := es.map V.int) (fun i acc H' => Same H1 H' ∧ acc = ((es.take i).map fun z => plB z 0 (qs.length : Int)).map V.bl) ⟨Same.new hL2, rfl⟩ (fun i H' acc ⟨s2, _⟩ => s2.seq (SqL.of (s1 _ _ he)))
      (fun i H' acc x hi hx hD2 hl3 ⟨s2, e2⟩ => ?_) (fun H2 acc hD2 hl3 ⟨s2, e2⟩ => ?_)
    · rw [List.getElem?_map] at hx
      obtain ⟨z, hz, rfl⟩ := Option.map_eq_some_iff.mp hx
      refine ⟨rfl, yesT ⟨_, rfl, _, rfl, z, 0, _, rfl, ?_⟩⟩
      refine lc_put (acc := acc) hD2 hl3 (sz64 (by rw [List.length_map] at hi; omega)) ⟨fun b o e => ?_, ?_⟩
      · rw [upd_ne (ne_of_none e hL2)]; exact s2 b o e
      · rw [e2]; exact mp_snoc (f := fun z => plB z 0 (qs.length : Int)) hz
    rw [List.length_map, List.take_length] at e2
    refine ⟨L2, _, rfl, SqL.of (by rw [hD2, e2]), _, rfl, ite2 (fun h3 => ?_) (fun h3 => ?_)⟩
    rotate_left
    · have := q H2 (s1.trans s2)
      rw [Bool.eq_false_iff.mpr h3, Bool.false_and] at this
      exact this
    rw [h3, Bool.true_and] at q
    -- the levers
    refine ⟨_, rfl, l, rfl, ⟨_, SqL.of (s2 _ _ (s1 _ _ hl))⟩, fun L3 hL3 => ?_⟩
    refine lc_list (K := K) (a := l) (xs := ls.map V.int) (fun i acc H' => Same H2 H' ∧ acc = ((ls.take i).map fun z => decide (z ≤ 4)).map V.bl) ⟨Same.new hL3, rfl⟩ (fun i H' acc ⟨s3, _⟩ => s3.seq (SqL.of (s2 _ _ (s1 _ _ hl))))
      (fun i H' acc x hi hx hD3 hl4 ⟨s3, e3⟩ => ?_) (fun H3 acc hD3 hl4 ⟨s3, e3⟩ => ?_)
    · rw [List.getElem?_map] at hx
      obtain ⟨z, hz, rfl⟩ := Option.map_eq_some_iff.mp hx
      refine ⟨rfl, yesT ⟨_, rfl, _, _, rfl, rfl, ?_⟩⟩
      refine lc_put (acc := acc) hD3 hl4 (sz64 (by rw [List.length_map] at hi; omega)) ⟨fun b o e => ?_, ?_⟩
      · rw [upd_ne (ne_of_none e hL3)]; exact s3 b o e
      · rw [e3]; exact mp_snoc (f := fun z => decide (z ≤ 4)) hz
    rw [List.length_map, List.take_length] at e3
    exact ⟨L3, _, rfl, SqL.of (by rw [hD3, e3]), q H3 ((s1.trans s2).trans s3)⟩
end
end Mg
set_option Elab.async false
set_option linter.all false
set_option maxRecDepth 100000
set_option maxHeartbeats 2000000
/-! Marbles: a Machine is made. -/
namespace Mg
open PySem PySem.Spec PyProof.Rows L2
section
variable {P : Program} {w : World} {K : PySem.W.Frag} {mg : Str → Option Value} {base : Heap} {CR CM CB : Addr}
theorem scMI : FnScope ["self", "gates", "entries", "levers", "gate", "number"] ["self", "gates", "entries", "levers"] (defScope sMInit) := ⟨rfl, rfl, rfl, by decide +kernel, rfl, by decide +kernel, by decide +kernel⟩
theorem gate_at {qs : List (List Int)} {i : Nat} {q : List Int} (h : qs[i]? = some q) : (qs.map toGate)[i]? = some (toGate q) := by rw [List.getElem?_map, h]; rfl
theorem ivs_snoc {l : List Nat} {i n : Nat} (h : l[i]? = some n) : ivs (l.take i) ++ [iv n] = ivs (l.take (i + 1)) := by
  rw [take_succ_of h]; unfold ivs; rw [List.map_append]; rfl
theorem ok_minit (D : Di K CM "Machine.__init__" sMInit ["self", "gates", "entries", "levers"]) (T : Txt K mg CR CM CB) (cF : Cal P w K mg base "flipped_behind" 1 ["kinds", "number"] (spFlip K)) :
    CalI P w K mg base CM 2 ["self", "gates", "entries", "levers"] (spMInit CM) := by
  refine D.ok scMI (fun vs H Q E h => ?_) (fun f cdv A outer s H vs Q E hr h => ?_)
  · obtain ⟨p, dx, g, e, l, as, qs, es, ls, rfl, _⟩ := h
    rfl
  · obtain ⟨p, dx, g, e, l, as, qs, es, ls, rfl, hp, hg, hA, hQ, hn, he, hl, q⟩ := h
    refine ⟨_, pss_cons (ps_fld (pv 0)
        (pe_lc (own := [("gate", 4)]) rfl scMI.nd (pi_list (pv 1)) (blk_of (by rfl))
          (fun _ _ _ _ _ => pg_name (i := 4) scMI.nd rfl (Or.inl rfl)) (fun _ _ _ _ _ => pts_nil) (fun _ _ _ _ _ => pe_ix (ixl (K := K)) (pv 4) pe_int (fun _ _ => rfl))) rfl)
      (pss_cons (ps_fld (pv 0) (pe_callB (cr_sum rfl) (by rfl) T.sum boot_sum (pa_cons
        (pe_lc (own := [("number", 5), ("gate", 4)]) rfl scMI.nd (pi_enum rfl T.enm (pa_cons (pv 1) pa_nil)) (blk_of (by rfl))
          (fun _ _ _ _ _ => pg_tupK (K := K) (n := 2) rfl (pgs_cons (pg_name (i := 5) scMI.nd rfl (Or.inl rfl)) (pgs_cons (pg_name (i := 4) scMI.nd rfl (Or.inl rfl)) pgs_nil))) (fun _ _ _ _ _ => pts_nil)
          (fun _ _ _ _ _ => pe_op op_shl (pe_ix (ixl (K := K)) (pv 4) pe_int (fun _ _ => rfl)) (pv 5))) pa_nil)) rfl)
      (pss_cons (ps_fld (pv 0)
        (pe_lc (own := [("gate", 4)]) rfl scMI.nd (pi_list (pv 1)) (blk_of (by rfl))
          (fun _ _ _ _ _ => pg_name (i := 4) scMI.nd rfl (Or.inl rfl)) (fun _ _ _ _ _ => pts_nil)
          (fun _ _ _ _ _ => pe_tup (pa_cons (pe_ix (ixl (K := K)) (pv 4) pe_int (fun _ _ => rfl)) (pa_cons (pe_ix (ixl (K := K)) (pv 4) pe_int (fun _ _ => rfl)) pa_nil)))) rfl)
      (pss_cons (ps_fld (pv 0)
        (pe_lc (own := [("number", 5)]) rfl scMI.nd (pi_range1 rfl T.rng (pa_cons (pe_callB call_len_seq (by rfl) T.len PySem.boot_len (pa_cons (pv 1) pa_nil)) pa_nil)) (blk_of (by rfl))
          (fun _ _ _ _ _ => pg_name (i := 5) scMI.nd rfl (Or.inl rfl)) (fun _ _ _ _ _ => pts_nil)
          (fun _ _ _ _ _ => pe_cal cF hr rfl (pa_cons (pe_fldK (K := K) (pv 0) rfl) (pa_cons (pv 5) pa_nil)))) rfl)
      (pss_cons (ps_fld (pv 0) (pv 2) rfl) (pss_one (ps_fld (pv 0) (pv 3) rfl)))))), ?_⟩
    have hgl : (qs.map toGate).length = qs.length := List.length_map _
    -- kinds
    refine ⟨_, rfl, g, rfl, ⟨_, SqL.of hg⟩, fun L1 hL1 => ?_⟩
    refine lc_list (K := K) (a := g) (xs := as.map V.ref) (fun i acc H' => Same H H' ∧ acc = ivs (((qs.map toGate).map (·.kind)).take i)) ⟨Same.new hL1, rfl⟩ (fun i H' acc ⟨s1, _⟩ => s1.seq (SqL.of hg))
      (fun i H' acc x hi hx hD hl2 ⟨s1, e1⟩ => ?_) (fun H1 acc hD1 hl2 ⟨s1, e1⟩ => ?_)
    · obtain ⟨t, a, b, c, d, ht, rfl, hqi, hrow, ha, _, _, _⟩ := (hA.same s1).at hQ hx
      refine ⟨rfl, yesT ⟨_, rfl, t, _, _, _, rfl, rfl, SqL.of hrow, at_of (j := 0) rfl rfl, ?_⟩⟩
      refine lc_put (acc := acc) hD hl2 (sz64 (by rw [List.length_map, hA.1] at hi; omega)) ⟨fun b o e => ?_, ?_⟩
      · rw [upd_ne (ne_of_none e hL1)]; exact s1 b o e
      · have ek : ((qs.map toGate).map (·.kind))[i]? = some a.toNat := by rw [List.getElem?_map, gate_at hqi]; rfl
        rw [e1, ← ivs_snoc ek]
        unfold iv
        rw [Int.toNat_of_nonneg ha.1]
    have hk1 : H1 L1 = some (.lst (ivs ((qs.map toGate).map (·.kind)))) := by
      rw [hD1, e1, List.length_map, hA.1]
      congr 3
      apply List.take_of_length_le
      simp
    have hp1 := s1 _ _ hp
    refine ⟨_, rfl, p, CM, dx, _, rfl, hp1, T.clM, T.nKinds, (by show 0 < 1000; decide), ?_⟩
    generalize hH1 : upd H1 p (.ins CM dx (putF "kinds" (.ref L1) [])) = G1
    have b1 : But p H G1 := fun b o e hb => by rw [← hH1, upd_ne hb]; exact s1 b o e
    have hpG1 : G1 p = some (.ins CM dx (putF "kinds" (.ref L1) [])) := by rw [← hH1]; exact upd_same
    have hkG1 : G1 L1 = some (.lst (ivs ((qs.map toGate).map (·.kind)))) := by rw [← hH1, upd_ne (ne_of hk1 hp1 (by intro z; cases z))]; exact hk1
    have hAG1 : QAt G1 as qs := hA.but b1 hp
    have hgG1 : G1 g = some (.lst (as.map V.ref)) := (Kl.but b1 hp).lst hg
    -- tilts
    refine ⟨_, rfl, g, _, rfl, SqL.of hgG1, fun L2 hL2 => ?_⟩
    refine lc_enum (K := K) (a := g) (xs := as.map V.ref) (fun i acc H' => Same G1 H' ∧ ∃ ns : List Int, acc = ns.map V.int ∧ ns.sum = (Klm.bits ((qs.map toGate).take i) : Int)) ⟨Same.new hL2, [], rfl, rfl⟩ (fun i H' acc ⟨s1, _⟩ => s1.seq (SqL.of hgG1))
      (fun i H' acc x U hi hx hD hl2 ⟨s1, ns, e1, e2⟩ hU => ?_) (fun H1 acc hD1 hl2 ⟨s1, ns, e1, e2⟩ => ?_)
    · obtain ⟨t, a, b, c, d, ht, rfl, hqi, hrow, _, hb, _, _⟩ := (hAG1.same s1).at hQ hx
      have hiq : i < qs.length := by rw [List.length_map, hA.1] at hi; exact hi
      have hLU : L2 ≠ U := fun z => by rw [← z, hD] at hU; cases hU
      have hrow2 : (upd H' U (.tup [.int (i : Nat), .ref t])) t = some (.lst [.int a, .int b, .int c, .int d]) := by rw [upd_ne (ne_of_none hrow hU)]; exact hrow
      refine ⟨U, _, rfl, SqT.of upd_same, rfl, _, _, rfl, _, _, rfl, rfl, rfl, yesT ⟨_, rfl, t, _, _, _, rfl, rfl, SqL.of hrow2, at_of (j := 1) rfl rfl, _, rfl, _, _, rfl, rfl, ⟨Int.natCast_nonneg _, by omega, by omega⟩, ?_⟩⟩
      refine lc_put (acc := acc) (by rw [upd_ne hLU]; exact hD) hl2 (sz64 (by omega)) ⟨fun b o e => ?_, ns ++ [b * 2 ^ ((i : Int)).toNat], ?_, ?_⟩
      · have e' := s1 b o e
        rw [upd_ne (ne_of_none e hL2), upd_ne (ne_of_none e' hU)]; exact e'
      · rw [e1, List.map_append]; rfl
      · have eg := gate_at hqi
        rw [sum_snoc, e2, take_succ_of eg, bits_snoc, List.length_take, Nat.min_eq_left (by rw [hgl]; omega), Int.natCast_add, Int.natCast_mul, Int.natCast_pow, Int.toNat_natCast]
        have eb : ((toGate [a, b, c, d]).tilt : Int) = b := Int.toNat_of_nonneg hb.1
        rw [eb]
        rfl
    refine ⟨L2, ns, rfl, SqL.of (by rw [hD1, e1]), ?_⟩
    have ebits : ns.sum = (Klm.bits (qs.map toGate) : Int) := by
      rw [e2, List.length_map, hA.1, List.take_of_length_le (by rw [hgl]; exact Nat.le_refl _)]
    rw [ebits]
    have hp1 := s1 _ _ hpG1
    refine ⟨_, rfl, p, CM, dx, _, rfl, hp1, T.clM, T.nTilts, (by show 1 < 1000; decide), ?_⟩
    generalize hH2 : upd H1 p (.ins CM dx (putF "tilts" (.int (Klm.bits (qs.map toGate) : Int)) (putF "kinds" (.ref L1) []))) = G2
    have b2 : But p G1 G2 := fun b o e hb => by rw [← hH2, upd_ne hb]; exact s1 b o e
    have hpG2 : G2 p = some (.ins CM dx (putF "tilts" (.int (Klm.bits (qs.map toGate) : Int)) (putF "kinds" (.ref L1) []))) := by rw [← hH2]; exact upd_same
    have hkG2 := (Kl.but b2 hpG1).lst hkG1
    have hAG2 : QAt G2 as qs := hAG1.but b2 hpG1
    have hgG2 : G2 g = some (.lst (as.map V.ref)) := (Kl.but b2 hpG1).lst hgG1
    have b12 : But p H G2 := b1.trans b2
    -- sides
    refine ⟨_, rfl, g, rfl, ⟨_, SqL.of hgG2⟩, fun L3 hL3 => ?_⟩
    refine lc_list (K := K) (a := g) (xs := as.map V.ref) (fun i acc H' => Same G2 H' ∧ ∃ ts : List Addr, acc = ts.map V.ref ∧ ts.length = i ∧ (∀ c ∈ ts, c ≠ L3) ∧ ∀ (j : Nat) (t : Addr) (gt : Klm.Gate), ts[j]? = some t → (qs.map toGate)[j]? = some gt → H' t = some (.tup (sideT gt)))
      ⟨Same.new hL3, [], rfl, rfl, (fun _ z => nomatch z), fun j c _ z => by simp at z⟩ (fun i H' acc ⟨s1, _⟩ => s1.seq (SqL.of hgG2))
      (fun i H' acc x hi hx hD hl2 ⟨s1, ts, e1, e2, e3, e4⟩ => ?_) (fun H1 acc hD1 hl2 ⟨s1, ts, e1, e2, e3, e4⟩ => ?_)
    · obtain ⟨t, a, b, c, d, ht, rfl, hqi, hrow, _, _, hc, hd⟩ := (hAG2.same s1).at hQ hx
      refine ⟨rfl, yesT ⟨_, rfl, t, _, _, _, rfl, rfl, SqL.of hrow, at_of (j := 2) rfl rfl, _, rfl, t, _, _, _, rfl, rfl, SqL.of hrow, at_of (j := 3) rfl rfl, (by show 2 ≤ sizeLine; decide), fun u hu => ?_⟩⟩
      have huL : u ≠ L3 := fun z => by rw [z, hD] at hu; cases hu
      refine lc_put (acc := acc) (by rw [upd_ne huL.symm]; exact hD) (by omega) (sz64 (by rw [List.length_map, hA.1] at hi; omega)) ⟨fun b o e => ?_, ts ++ [u], ?_, ?_, ?_, ?_⟩
      · have e' := s1 b o e
        rw [upd_ne (ne_of_none e hL3), upd_ne (ne_of_none e' hu)]; exact e'
      · rw [e1, List.map_append]; rfl
      · rw [List.length_append, e2]; rfl
      · intro y hy
        rcases List.mem_append.mp hy with z | z
        · exact e3 y z
        · rw [List.mem_singleton.mp z]; exact huL
      · intro j y gt hj hgt
        by_cases hj2 : j < ts.length
        · rw [List.getElem?_append_left hj2] at hj
          have hy := e4 j y gt hj hgt
          rw [upd_ne (e3 y (List.mem_of_getElem? hj)), upd_ne (ne_of_none hy hu)]; exact hy
        · have hlt := (List.getElem?_eq_some_iff.mp hj).1
          rw [List.length_append, List.length_singleton] at hlt
          have ej : j = ts.length := by omega
          subst ej
          rw [List.getElem?_append_right (Nat.le_refl _), Nat.sub_self] at hj
          have ed : u = y := Option.some.inj hj
          subst ed
          rw [e2, gate_at hqi] at hgt
          cases hgt
          rw [upd_ne huL, upd_same]
          show some (HO.tup [V.int c, V.int d]) = some (HO.tup [V.int ((c.toNat : Nat) : Int), V.int ((d.toNat : Nat) : Int)])
          rw [Int.toNat_of_nonneg hc.1, Int.toNat_of_nonneg hd.1]
    have hp1 := s1 _ _ hpG2
    refine ⟨_, rfl, p, CM, dx, _, rfl, hp1, T.clM, T.nSides, (by show 2 < 1000; decide), ?_⟩
    generalize hH3 : upd H1 p (.ins CM dx (putF "sides" (.ref L3) (putF "tilts" (.int (Klm.bits (qs.map toGate) : Int)) (putF "kinds" (.ref L1) [])))) = G3
    have b3 : But p G2 G3 := fun b o e hb => by rw [← hH3, upd_ne hb]; exact s1 b o e
    have hpG3 : G3 p = some (.ins CM dx (putF "sides" (.ref L3) (putF "tilts" (.int (Klm.bits (qs.map toGate) : Int)) (putF "kinds" (.ref L1) [])))) := by rw [← hH3]; exact upd_same
    have hkG3 := (Kl.but b3 hpG2).lst hkG2
    have hgG3 : G3 g = some (.lst (as.map V.ref)) := (Kl.but b3 hpG2).lst hgG2
    have htl : ts.length = qs.length := by rw [e2, List.length_map, hA.1]
    have hsG3 : G3 L3 = some (.lst (ts.map V.ref)) := by rw [← hH3, upd_ne (ne_of hD1 hp1 (by intro z; cases z)), hD1, e1]
    have htG3 : ∀ (j : Nat) (t : Addr) (gt : Klm.Gate), ts[j]? = some t → (qs.map toGate)[j]? = some gt → G3 t = some (.tup (sideT gt)) := fun j t gt h1 h2 => by
      have hy := e4 j t gt h1 h2
      rw [← hH3, upd_ne (ne_of hy hp1 (by intro z; cases z))]; exact hy
    have b13 : But p H G3 := b12.trans b3
    -- flips
    refine ⟨_, rfl, g, _, rfl, .inl (SqL.of hgG3), _, rfl, by omega, by rw [List.length_map, hA.1]; omega, fun L4 hL4 => ?_⟩
    rw [Int.toNat_natCast, List.length_map, hA.1]
    refine lc_range (lo := 0) (n := qs.length) (fun i acc H' => Same G3 H' ∧ acc = ivs (((List.range qs.length).map fun i => flipN ((qs.map toGate).map (·.kind)) i).take i)) ⟨Same.new hL4, rfl⟩
      (fun i H' acc hi hD hl2 ⟨s1, e1⟩ => ?_) (fun H1 acc hD1 hl2 ⟨s1, e1⟩ => ?_)
    · refine ⟨rfl, yesT ⟨_, rfl, p, CM, dx, _, _, rfl, s1 _ _ hpG3, T.clM, T.nKinds, rfl, _, rfl, L1, i, (qs.map toGate).map (·.kind), ?_, SqL.of (s1 _ _ hkG3), by simp; exact hi, by simp; exact hn, fun H5 s5 => ?_⟩⟩
      · show [V.ref L1, V.int ((0 : Int) + (i : Int))] = [V.ref L1, V.int (i : Int)]
        rw [Int.zero_add]
      · refine lc_put (acc := acc) (s5 _ _ hD) hl2 (sz64 (by omega)) ⟨fun b o e => ?_, ?_⟩
        · rw [upd_ne (ne_of_none e hL4)]; exact s5 _ _ (s1 b o e)
        · have ef : ((List.range qs.length).map fun i => flipN ((qs.map toGate).map (·.kind)) i)[i]? = some (flipN ((qs.map toGate).map (·.kind)) i) := by
            rw [List.getElem?_map, List.getElem?_range hi]; rfl
          rw [e1, ← ivs_snoc ef]
    have hp1 := s1 _ _ hpG3
    have hf1 : H1 L4 = some (.lst (ivs ((List.range qs.length).map fun i => flipN ((qs.map toGate).map (·.kind)) i))) := by
      rw [hD1, e1]
      congr 3
      apply List.take_of_length_le
      simp
    refine ⟨_, rfl, p, CM, dx, _, rfl, hp1, T.clM, T.nFlips, (by show 3 < 1000; decide), ?_⟩
    refine ⟨_, rfl, _, rfl, p, CM, dx, _, rfl, upd_same, T.clM, T.nEntries, (by show 4 < 1000; decide), ?_⟩
    refine ⟨_, rfl, _, rfl, p, CM, dx, _, rfl, upd_same, T.clM, T.nLevers, (by show 5 < 1000; decide), ?_⟩
    generalize hH4 : upd (upd (upd H1 p _) p _) p _ = G4
    have b4 : But p G3 G4 := fun b o e hb => by rw [← hH4, upd_ne hb, upd_ne hb, upd_ne hb]; exact s1 b o e
    have hpG4 : G4 p = some (.ins CM dx (mcF L1 (Klm.bits (qs.map toGate) : Int) L3 L4 e l)) := by rw [← hH4]; exact upd_same
    have kl4 := Kl.but b4 hpG3
    have b14 : But p H G4 := b13.trans b4
    have kl14 := Kl.but b14 hp
    refine q G4 ⟨dx, L1, L3, L4, e, l, ts, hpG4, kl4.lst hkG3, kl4.lst hsG3, by rw [htl]; exact hgl.symm, fun i t gt h1 h2 => kl4.tup (htG3 i t gt h1 h2), ?_, kl14.lst he, kl14.lst hl⟩ b14
    show G4 L4 = some (.lst (ivs ((List.range (qs.map toGate).length).map fun i => flipN ((qs.map toGate).map (·.kind)) i)))
    rw [hgl, ← hH4, upd_ne (ne_of hf1 hp1 (by intro z; cases z)), upd_ne (ne_of hf1 hp1 (by intro z; cases z)), upd_ne (ne_of hf1 hp1 (by intro z; cases z))]
    exact hf1
end
end Mg
set_option Elab.async false
set_option linter.all false
set_option maxRecDepth 100000
set_option maxHeartbeats 2000000
/-! Marbles: one marble falls. -/
namespace Mg
open PySem PySem.Spec PyProof.Rows L2
abbrev sLetGo : Stmt := top 33
/-! ### numbers -/
theorem bitXor_nat (x y : Nat) : Builtin.bitXor (x : Int) (y : Int) = ((x ^^^ y : Nat) : Int) := by
  have h1 : Builtin.bitXor (x : Int) (y : Int) = x + y - 2 * Builtin.bitAnd (x : Int) (y : Int) := bitXor_and _ _
  have h2 : Builtin.bitAnd (x : Int) (y : Int) = ((x &&& y : Nat) : Int) := by
    rw [bitAnd_pp (Int.natCast_nonneg _) (Int.natCast_nonneg _)]
    rfl
  have h3 := xor_and x y
  rw [h1, h2]
  omega
theorem side_is {gs : List Klm.Gate} {k : Nat} {g : Klm.Gate} (ht : Tl gs) (hg : gs[k]? = some g) : Builtin.bitAnd ((Klm.bits gs : Int) / 2 ^ ((k : Int)).toNat) 1 = (g.tilt : Int) := by
  have h1 : Builtin.bitAnd ((Klm.bits gs : Int) / 2 ^ ((k : Int)).toNat) 1 = (Klm.bits gs : Int) / 2 ^ ((k : Int)).toNat % 2 := bitAnd_m1 _
  have h2 := bits_at ht hg
  rw [h1, Int.toNat_natCast]
  have h3 : ((Klm.bits gs / 2 ^ k % 2 : Nat) : Int) = (Klm.bits gs : Int) / 2 ^ k % 2 := by
    rw [Int.natCast_emod, Int.natCast_ediv, Int.natCast_pow]
    rfl
  rw [← h3, h2]
theorem side_at {g : Klm.Gate} (h : g.tilt ≤ 1) : (sideT g)[g.tilt]? = some (iv (Klm.way g)) := by
  have : g.tilt = 0 ∨ g.tilt = 1 := by omega
  unfold Klm.way
  rcases this with z | z <;> rw [z] <;> rfl
theorem flips_at {m : Klm.Machine} {k : Nat} (h : k < m.gates.length) : (ivs ((List.range m.gates.length).map fun i => flipN (m.gates.map (·.kind)) i))[k]? = some (iv (flipN (m.gates.map (·.kind)) k)) := by
  apply ivs_get
  rw [List.getElem?_map, List.getElem?_range h]
  rfl
def spLetGo (CM : Addr) : Sp := fun vs H Q _ => ∃ (p : Addr) (e : Nat) (m : Klm.Machine) (dx lk ls lf le ll : Addr) (ts : List Addr), vs = [.ref p, iv e] ∧ e ≤ 3 ∧ Rt m ∧ McAt CM H p m dx lk ls lf le ll ts ∧
  ∀ H' : Hp, H' p = some (.ins CM dx (mcF lk (Klm.bits (Klm.drop m e).1.gates : Int) ls lf le ll)) → But p H H' → Q (iv (Klm.drop m e).2) H'
section
variable {P : Program} {w : World} {K : PySem.W.Frag} {mg : Str → Option Value} {base : Heap} {CR CM CB : Addr}
theorem scLG : FnScope ["machine", "entry", "sides", "flips", "tilts", "place", "side"] ["machine", "entry"] (defScope sLetGo) := ⟨rfl, rfl, rfl, by decide +kernel, rfl, by decide +kernel, by decide +kernel⟩
theorem ok_letgo (D : Dn K mg "let_go" sLetGo ["machine", "entry"]) (T : Txt K mg CR CM CB) : Cal P w K mg base "let_go" 1 ["machine", "entry"] (spLetGo CM) := by
  refine D.ok scLG (fun vs H Q E h => ?_) (fun f cdv A outer s H vs Q E hr h => ?_)
  · obtain ⟨p, e, m, dx, lk, ls, lf, le, ll, ts, rfl, _⟩ := h
    rfl
  · obtain ⟨p, e, m, dx, lk, ls, lf, le, ll, ts, rfl, he, rt, M, q⟩ := h
    obtain ⟨w0, he1, he2, pl0⟩ := entry_at rt he
    refine ⟨_, pss_cons (ps_set (i := 2) scLG.nd rfl (Or.inl rfl) (pe_fld (pv 0) rfl))
      (pss_cons (ps_set (i := 3) scLG.nd rfl (Or.inl rfl) (pe_fld (pv 0) rfl))
      (pss_cons (ps_set (i := 4) scLG.nd rfl (Or.inl rfl) (pe_fld (pv 0) rfl))
      (pss_cons (ps_set (i := 5) scLG.nd rfl (Or.inl rfl) (pe_ix ix_list (pe_fld (pv 0) rfl) (pv 1) (fun _ _ => rfl)))
      (pss_cons (ps_while PassesOwn.never (pt_cmpR op_lt (pv 5) (pe_kc T.kExit rfl) (nomark _))
        (pss_cons (ps_set (i := 6) scLG.nd rfl (Or.inl rfl) (pe_op op_and (pe_op op_shr (pv 4) (pv 5)) pe_int))
        (pss_cons (ps_set (i := 4) scLG.nd rfl (Or.inl rfl) (pe_op op_xor (pv 4) (pe_ix ix_list (pv 3) (pv 5) (fun _ _ => rfl))))
        (pss_one (ps_set (i := 5) scLG.nd rfl (Or.inl rfl) (pe_ix ix_tup (pe_ix ix_list (pv 2) (pv 5) (fun _ _ => rfl)) (pv 6) (fun _ _ => rfl)))))))
      (pss_cons (ps_fld (pv 0) (pv 4) rfl)
      (pss_one (ps_ret (pe_op op_sub (pv 5) (pe_kc T.kExit rfl))))))))), ?_⟩
    refine ⟨_, rfl, p, CM, dx, _, _, rfl, M.ob, T.clM, T.nSides, mc_sides, ?_⟩
    refine ⟨_, rfl, p, CM, dx, _, _, rfl, M.ob, T.clM, T.nFlips, mc_flips, ?_⟩
    refine ⟨_, rfl, p, CM, dx, _, _, rfl, M.ob, T.clM, T.nTilts, mc_tilts, ?_⟩
    refine ⟨_, rfl, p, CM, dx, _, _, rfl, M.ob, T.clM, T.nEntries, mc_entries, _, rfl, le, _, _, _, rfl, rfl, SqL.of M.entries, atI_nat (ivs_get he1), ?_⟩
    refine ⟨fun j σ H' => H' = H ∧ ∃ (m' : Klm.Machine) (pl f : Nat) (sv : Option V), σ = [some (.ref p), some (iv e), some (.ref ls), some (.ref lf), some (iv (Klm.bits m'.gates)), some (iv pl), sv] ∧
      Sh m m' ∧ Pl m' pl ∧ Klm.falls 64 m w0 = Klm.falls f m' pl ∧ (pl < 64 → 64 ≤ f + pl) ∧ j = 80 - pl, ⟨_, rfl, m, w0, 64, none, rfl, Sh.refl rt, pl0, rfl, (fun _ => Nat.le_add_right _ _), rfl⟩, ?_⟩
    rintro j σ H' ⟨rfl, m', pl, f', sv, rfl, sh, hpl, hf, hf2, rfl⟩
    have rt' : Rt m' := rt.sh sh
    have hn := rt'.n
    refine ⟨_, rfl, _, _, rfl, rfl, _, rfl, ite2 (fun hlt => ?_) (fun hge => ?_)⟩
    · have hlt : (pl : Int) < 64 := of_decide_eq_true hlt
      have hl : pl < m'.gates.length := by unfold Pl at hpl; omega
      have hg : m'.gates[pl]? = some m'.gates[pl] := List.getElem?_eq_getElem hl
      generalize m'.gates[pl] = g at hg
      have hlm : pl < m.gates.length := by rw [← sh.len]; exact hl
      have tg := (rt'.g pl g hg).2.1
      obtain ⟨t, ht⟩ : ∃ t, ts[pl]? = some t := ⟨_, List.getElem?_eq_getElem (by rw [M.tl]; exact hlm)⟩
      obtain ⟨g0, hg0, _, el, er⟩ := sh.at hg
      have htup := M.tup pl t g0 ht hg0
      have est : sideT g0 = sideT g := by unfold sideT; rw [el, er]
      rw [est] at htup
      refine ⟨fun σ' H' => ∃ j', j' < 80 - pl ∧ (H' = _ ∧ ∃ (m' : Klm.Machine) (pl f : Nat) (sv : Option V), σ' = [some (.ref p), some (iv e), some (.ref ls), some (.ref lf), some (iv (Klm.bits m'.gates)), some (iv pl), sv] ∧
        Sh m m' ∧ Pl m' pl ∧ Klm.falls 64 m w0 = Klm.falls f m' pl ∧ (pl < 64 → 64 ≤ f + pl) ∧ j' = 80 - pl), fun _ _ h => h, ?_⟩
      refine ⟨_, rfl, _, rfl, _, _, rfl, rfl, Int.natCast_nonneg _, _, _, rfl, rfl, ?_⟩
      refine ⟨_, rfl, _, rfl, _, rfl, lf, _, _, _, rfl, rfl, SqL.of M.flips, atI_nat (flips_at hlm), _, _, rfl, rfl, ?_⟩
      refine ⟨_, rfl, _, rfl, ls, _, _, _, rfl, rfl, SqL.of M.sides, atI_nat (v := V.ref t) (by rw [List.getElem?_map, ht]; rfl), _, rfl, t, _, _, _, rfl, rfl, SqT.of htup, at_of (side_is rt'.tl hg) (side_at tg), ?_⟩
      have sp := passed_sh hg rt'.tl
      obtain ⟨p1, p2⟩ := rt'.way hg
      refine ⟨80 - Klm.way g, by omega, rfl, Klm.passed m' pl, Klm.way g, f' - 1, some (V.int (Builtin.bitAnd ((Klm.bits m'.gates : Int) / 2 ^ ((pl : Int)).toNat) 1)), ?_, sh.trans sp, ?_, ?_, ?_, rfl⟩
      · have eb := passed_bits hg rt'.tl
        rw [sh.kinds] at eb
        rw [eb]
        show [some (V.ref p), some (iv e), some (V.ref ls), some (V.ref lf), some (V.int (Builtin.bitXor _ _)), some (iv (Klm.way g)), _] = [_, _, _, _, some (iv _), _, _]
        unfold iv
        rw [bitXor_nat]
      · unfold Pl at p1 ⊢; rw [sp.len]; exact p1
      · rw [hf]
        have : f' = (f' - 1) + 1 := by omega
        rw [this, falls_go (by omega), gate_of hg]
        rfl
      · intro _; omega
    · have hge : ¬ (pl : Int) < 64 := fun z => hge (decide_eq_true z)
      refine ⟨_, rfl, _, rfl, p, CM, dx, _, rfl, M.ob, T.clM, T.nTilts, (by show 6 < 1000; decide), ?_⟩
      refine ⟨_, rfl, _, _, rfl, rfl, ?_⟩
      have ed : Klm.drop m e = (m', pl - 64) := by
        unfold Klm.drop
        rw [he2, hf, falls_out (by omega)]
      rw [ed] at q
      have ez : (pl : Int) - 64 = ((pl - 64 : Nat) : Int) := by omega
      have := q _ (M.turn sh).ob (But.upd _ _ _)
      show Q (V.int ((pl : Int) - 64)) _
      rw [ez]
      exact this
end
end Mg
set_option Elab.async false
set_option linter.all false
set_option maxRecDepth 100000
set_option maxHeartbeats 2000000
/-! Marbles: many at once. -/
namespace Mg
open PySem PySem.Spec PyProof.Rows L2
abbrev sGeared : Stmt := top 32
abbrev sTiltOf : Stmt := top 34
abbrev sPass : Stmt := top 35
abbrev sArr : Stmt := top 36
abbrev sLgm : Stmt := top 37
/-- xs[k], by values, k a place -/
def rGetL (K : PySem.W.Frag) : V → V → Hp → VK → Prop := fun o i H Q => ∃ (p : Addr) (xs : List V) (k : Nat) (v : V), o = .ref p ∧ i = iv k ∧ SqL K H p xs ∧ xs[k]? = some v ∧ Q v H
theorem get_list {X : Cx} : PGet X (rGetL X.K) := by
  intro pins s σ H o i ov iv' Q I ro ri h
  obtain ⟨p, xs, k, v, rfl, rfl, hq, hx, q⟩ := h
  cases ro
  obtain ⟨t, rfl⟩ := ri
  obtain ⟨its, r, pl, hz⟩ := I.list hq
  obtain ⟨w, ew, rw'⟩ := r.get hx
  have hl := r.length
  have hk := (List.getElem?_eq_some_iff.mp hx).1
  have hs : sizeLine = 16777216 := sizeLine_eq
  exact wpAny_getItem_list pl.isList (Int.natCast_nonneg _) (by omega) (by rw [Int.toNat_natCast]; simpa using ew) ⟨v, H, I, rw', q⟩
theorem ixN_nat {n k : Nat} (h : k < n) : ixN n (k : Int) = some k := by
  unfold ixN
  rw [if_pos (Int.natCast_nonneg _), if_pos (by omega), Int.toNat_natCast]
theorem ivs_set (l : List Nat) (k n : Nat) : (ivs l).set k (iv n) = ivs (l.set k n) := by unfold ivs; rw [List.map_set]
theorem ivs_add {l : List Nat} {k v : Nat} : (ivs l).set k (V.int (((l.getD k 0 : Nat) : Int) + (v : Int))) = ivs (Klm.add l k v) := by
  unfold Klm.add
  rw [← ivs_set]
  unfold iv
  rw [Int.natCast_add]
theorem getD_of {l : List Nat} {k : Nat} (h : k < l.length) : l[k]? = some (l.getD k 0) := by
  rw [List.getD_eq_getElem?_getD, List.getElem?_eq_getElem h]; rfl
def aheadN (g : Klm.Gate) (v : Nat) : Nat := if g.kind = 1 then v else (v + 1) / 2
/-- a gate lets all its marbles go on, as the program does -/
def stepP (g : Klm.Gate) (k : Nat) (l : List Nat) : List Nat :=
  Klm.add (Klm.add l (Klm.way g) (aheadN g (l.getD k 0))) (if g.tilt = 0 then g.right else g.left) (l.getD k 0 - aheadN g (l.getD k 0))
theorem side_other {g : Klm.Gate} (h : g.tilt ≤ 1) : (sideT g)[1 - g.tilt]? = some (iv (if g.tilt = 0 then g.right else g.left)) := by
  have : g.tilt = 0 ∨ g.tilt = 1 := by omega
  rcases this with z | z <;> rw [z] <;> rfl
theorem stepP_is {m : Klm.Machine} {k : Nat} {g : Klm.Gate} (hg : m.gates[k]? = some g) (ht : g.tilt ≤ 1) (hk : g.kind ≤ 1) (l : List Nat) : stepP g k l = stepK m k l := by
  rw [stepK_ahead hg ht hk l (aheadN g (l.getD k 0)) rfl]
  rfl
theorem cut64 (l : List Nat) (h : l.length = 80) : cutV (ivs l) (some 64) none = ivs (l.drop 64) := by
  have e1 : HT.sIx (ivs l).length 0 (some 64) = 64 := by
    rw [ivs_len, h]; rfl
  have e2 : HT.sIx (ivs l).length (ivs l).length none = 80 := by
    rw [ivs_len, h]; rfl
  unfold cutV
  rw [e1, e2]
  unfold ivs
  rw [← List.map_drop, List.take_of_length_le]
  rw [List.length_map, List.length_drop, h]
  omega
/-- a list of 80 is none of a machine's own -/
theorem McAt.keep80 {CM : Addr} {H H' : Hp} {p r : Addr} {m : Klm.Machine} {dx lk ls lf le ll : Addr} {ts : List Addr} {l : List Nat} (M : McAt CM H p m dx lk ls lf le ll ts) (rt : Rt m) (hr : H r = some (.lst (ivs l))) (hl : l.length = 80)
    (kp : ∀ b o, H b = some o → b ≠ r → H' b = some o) : McAt CM H' p m dx lk ls lf le ll ts := by
  have hn := rt.n
  have no : ∀ {b : Addr} {xs : List V}, H b = some (.lst xs) → xs.length ≠ 80 → H' b = some (.lst xs) := fun {b xs} e n => kp _ _ e fun z => by
    rw [z, hr] at e
    cases e
    rw [ivs_len] at n
    exact n hl
  refine ⟨kp _ _ M.ob (ne_of M.ob hr (by intro z; cases z)), no M.kinds ?_, no M.sides ?_, M.tl, fun i t g e1 e2 => kp _ _ (M.tup i t g e1 e2) (ne_of (M.tup i t g e1 e2) hr (by intro z; cases z)), no M.flips ?_, no M.entries ?_, no M.levers ?_⟩
  · rw [ivs_len, List.length_map]; omega
  · rw [List.length_map, M.tl]; omega
  · rw [ivs_len, List.length_map, List.length_range]; omega
  · rw [ivs_len, rt.el]; omega
  · rw [ivs_len, rt.ll]; omega
/-- the flow of c marbles from entry e -/
def flowE (m : Klm.Machine) (e c : Nat) : List Nat := Klm.flows m.gates.length m 0 (Klm.add (List.replicate 80 0) (m.entries.getD e 64) c)
theorem flowE_len (m : Klm.Machine) (e c : Nat) : (flowE m e c).length = 80 := by unfold flowE; rw [flows_len, add_len, List.length_replicate]
def spGeared (CM : Addr) : Sp := fun vs H Q _ => ∃ (p : Addr) (m : Klm.Machine), vs = [.ref p] ∧ Rt m ∧ MachAt CM H p m ∧ ∀ H' : Hp, Same H H' → Q (.bl (Klm.geared m)) H'
def spTiltOf (CM : Addr) : Sp := fun vs H Q _ => ∃ (p : Addr) (k : Nat) (m : Klm.Machine) (g : Klm.Gate), vs = [.ref p, iv k] ∧ Tl m.gates ∧ m.gates[k]? = some g ∧ MachAt CM H p m ∧ Q (iv g.tilt) H
def spPass (CM : Addr) : Sp := fun vs H Q _ => ∃ (p q : Addr) (k : Nat) (m : Klm.Machine) (g : Klm.Gate) (l : List Nat), vs = [.ref p, iv k, .ref q] ∧ Rt m ∧ m.gates[k]? = some g ∧ g.kind ≤ 1 ∧ l.length = 80 ∧ MachAt CM H p m ∧ H q = some (.lst (ivs l)) ∧
  ∀ H' : Hp, H' q = some (.lst (ivs (stepP g k l))) → (∀ b o, H b = some o → b ≠ q → H' b = some o) → Q .non H'
def spArr (CM : Addr) : Sp := fun vs H Q _ => ∃ (p : Addr) (e c : Nat) (m : Klm.Machine), vs = [.ref p, iv e, iv c] ∧ e ≤ 3 ∧ Rt m ∧ Klm.geared m = false ∧ MachAt CM H p m ∧
  ∀ (H' : Hp) (q : Addr), Same H H' → H q = none → H' q = some (.lst (ivs (flowE m e c))) → Q (.ref q) H'
def spLgm (CM : Addr) : Sp := fun vs H Q _ => ∃ (p : Addr) (e c : Nat) (m : Klm.Machine), vs = [.ref p, iv e, iv c] ∧ e ≤ 3 ∧ Rt m ∧ Klm.geared m = false ∧ MachAt CM H p m ∧
  ∀ (H' : Hp) (q : Addr), MachAt CM H' p (Klm.many m e c).1 → But p H H' → H q = none → H' q = some (.lst (ivs (Klm.many m e c).2)) → Q (.ref q) H'
section
variable {P : Program} {w : World} {K : PySem.W.Frag} {mg : Str → Option Value} {base : Heap} {CR CM CB : Addr}
theorem scGe : FnScope ["machine", "kind"] ["machine"] (defScope sGeared) := ⟨rfl, rfl, rfl, by decide +kernel, rfl, by decide +kernel, by decide +kernel⟩
theorem ok_geared (D : Dn K mg "has_geared" sGeared ["machine"]) (T : Txt K mg CR CM CB) : Cal P w K mg base "has_geared" 1 ["machine"] (spGeared CM) := by
  refine D.ok scGe (fun vs H Q E h => ?_) (fun f cdv A outer s H vs Q E hr h => ?_)
  · obtain ⟨p, m, rfl, _⟩ := h
    rfl
  · obtain ⟨p, m, rfl, rt, ⟨dx, lk, ls, lf, le, ll, ts, M⟩, q⟩ := h
    have hn := rt.n
    refine ⟨_, pss_one (ps_ret (pe_callB (cr_any rfl) (by rfl) T.any boot_any (pa_cons (pe_lc (own := [("kind", 1)]) rfl scGe.nd (pi_list (pe_fld (pv 0) rfl)) (blk_of (by rfl))
      (fun _ _ _ _ _ => pg_name (i := 1) scGe.nd rfl (Or.inl rfl)) (fun _ _ _ _ _ => pts_nil) (fun _ _ _ _ _ => pe_cmpR op_ge (pv 1) (pe_kc T.kSet rfl) (nomark _))) pa_nil))), ?_⟩
    refine ⟨_, rfl, p, CM, dx, _, _, rfl, M.ob, T.clM, T.nKinds, mc_kinds, lk, rfl, ⟨_, SqL.of M.kinds⟩, fun L hL => ?_⟩
    refine lc_list (K := K) (a := lk) (xs := ivs (m.gates.map (·.kind))) (fun i acc H' => Same H H' ∧ acc = ((m.gates.take i).map fun g => decide (2 ≤ g.kind)).map V.bl) ⟨Same.new hL, rfl⟩ (fun i H' acc ⟨s1, _⟩ => s1.seq (SqL.of M.kinds))
      (fun i H' acc x hi hx hD hl2 ⟨s1, e1⟩ => ?_) (fun H1 acc hD1 hl2 ⟨s1, e1⟩ => ?_)
    · unfold ivs at hx
      rw [List.map_map, List.getElem?_map] at hx
      obtain ⟨g, hg, rfl⟩ := Option.map_eq_some_iff.mp hx
      refine ⟨rfl, yesT ⟨_, rfl, _, _, rfl, rfl, ?_⟩⟩
      refine lc_put (acc := acc) hD hl2 (sz64 (by rw [ivs_len, List.length_map] at hi; omega)) ⟨fun b o e => ?_, ?_⟩
      · rw [upd_ne (ne_of_none e hL)]; exact s1 b o e
      · have ed : decide ((2 : Int) ≤ (g.kind : Int)) = decide (2 ≤ g.kind) := by
          rw [Bool.eq_iff_iff]; simp only [decide_eq_true_eq]; omega
        rw [e1, take_succ_of hg, List.map_append, List.map_append]
        show _ ++ [V.bl (decide ((2 : Int) ≤ (g.kind : Int)))] = _
        rw [ed]
        rfl
    · rw [ivs_len, List.length_map, List.take_length] at e1
      refine ⟨L, _, rfl, SqL.of (by rw [hD1, e1]), ?_⟩
      have := q H1 s1
      unfold Klm.geared at this
      rw [List.any_map]
      exact this
theorem scTo : FnScope ["machine", "number"] ["machine", "number"] (defScope sTiltOf) := ⟨rfl, rfl, rfl, by decide +kernel, rfl, by decide +kernel, by decide +kernel⟩
theorem ok_tiltof (D : Dn K mg "tilt_of" sTiltOf ["machine", "number"]) (T : Txt K mg CR CM CB) : Cal P w K mg base "tilt_of" 1 ["machine", "number"] (spTiltOf CM) := by
  refine D.ok scTo (fun vs H Q E h => ?_) (fun f cdv A outer s H vs Q E hr h => ?_)
  · obtain ⟨p, k, m, g, rfl, _⟩ := h
    rfl
  · obtain ⟨p, k, m, g, rfl, tl, hg, ⟨dx, lk, ls, lf, le, ll, ts, M⟩, q⟩ := h
    refine ⟨_, pss_one (ps_ret (pe_op op_and (pe_op op_shr (pe_fld (pv 0) rfl) (pv 1)) pe_int)), ?_⟩
    refine ⟨_, rfl, p, CM, dx, _, _, rfl, M.ob, T.clM, T.nTilts, mc_tilts, _, rfl, _, _, rfl, rfl, Int.natCast_nonneg _, _, _, rfl, rfl, ?_⟩
    dsimp only
    rw [side_is tl hg]
    exact q
theorem scPa : FnScope ["machine", "number", "arrived", "here", "side", "ahead"] ["machine", "number", "arrived"] (defScope sPass) := ⟨rfl, rfl, rfl, by decide +kernel, rfl, by decide +kernel, by decide +kernel⟩
theorem ok_pass (D : Dn K mg "pass_gate" sPass ["machine", "number", "arrived"]) (T : Txt K mg CR CM CB) (cT : Cal P w K mg base "tilt_of" 1 ["machine", "number"] (spTiltOf CM)) :
    Cal P w K mg base "pass_gate" 2 ["machine", "number", "arrived"] (spPass CM) := by
  refine D.ok scPa (fun vs H Q E h => ?_) (fun f cdv A outer s H vs Q E hr h => ?_)
  · obtain ⟨p, q, k, m, g, l, rfl, _⟩ := h
    rfl
  · obtain ⟨p, r, k, m, g, l, rfl, rt, hg, hk, hl, ⟨dx, lk, ls, lf, le, ll, ts, M⟩, hR, q⟩ := h
    have hn := rt.n
    have hkl : k < m.gates.length := (List.getElem?_eq_some_iff.mp hg).1
    obtain ⟨_, tg, w1, w2⟩ := rt.g k g hg
    have hkind : (ivs (m.gates.map (·.kind)))[k]? = some (iv g.kind) := ivs_get (by rw [List.getElem?_map, hg]; rfl)
    obtain ⟨t, ht⟩ : ∃ t, ts[k]? = some t := ⟨_, List.getElem?_eq_getElem (by rw [M.tl]; exact hkl)⟩
    have htup := M.tup k t g ht hg
    have htm : (ts.map V.ref)[k]? = some (V.ref t) := by rw [List.getElem?_map, ht]; rfl
    have hw1 : Klm.way g < 80 := by unfold Klm.way; split <;> omega
    have hw2 : (if g.tilt = 0 then g.right else g.left) < 80 := by split <;> omega
    -- what is behind the test of the kind
    have R : ∃ tm, PSs (cxOf CX0 P w K mg base ["machine", "number", "arrived", "here", "side", "ahead"] "pass_gate" (defScope sPass) f cdv A outer s H E).nox ((defBody sPass).drop 3) tm ∧
        ∀ a : Nat, a = aheadN g (l.getD k 0) → tm { nx := fun _ H' => Q .non H', rt := Q } [some (.ref p), some (iv k), some (.ref r), some (iv (l.getD k 0)), some (iv g.tilt), some (iv a)] H := by
      refine ⟨_, pss_cons (ps_augS (pv 2) (pe_ix ix_tup (pe_ix ix_list (pe_fld (pv 0) rfl) (pv 1) (fun _ _ => rfl)) (pv 4) (fun _ _ => rfl)) get_list (pv 5) ip_add set_list)
        (pss_one (ps_augS (pv 2) (pe_ix ix_tup (pe_ix ix_list (pe_fld (pv 0) rfl) (pv 1) (fun _ _ => rfl)) (pe_op op_sub pe_int (pv 4)) (fun _ _ => rfl)) get_list (pe_op op_sub (pv 3) (pv 5)) ip_add set_list)), ?_⟩
      intro a ha
      have hal : a ≤ l.getD k 0 := by rw [ha]; unfold aheadN; split <;> omega
      refine ⟨_, rfl, _, rfl, p, CM, dx, _, _, rfl, M.ob, T.clM, T.nSides, mc_sides, _, rfl, ls, _, _, _, rfl, rfl, SqL.of M.sides, atI_nat htm, _, rfl, t, _, _, _, rfl, rfl, SqT.of htup, at_of (j := g.tilt) rfl (side_at tg), ?_⟩
      refine ⟨r, _, Klm.way g, _, rfl, rfl, SqL.of hR, ivs_get (getD_of (by rw [hl]; exact hw1)), _, rfl, _, _, rfl, rfl, r, _, _, _, rfl, rfl, hR, ixN_nat (by rw [ivs_len, hl]; exact hw1), ?_⟩
      rw [ivs_add]
      generalize hG1 : upd H r (.lst (ivs (Klm.add l (Klm.way g) a))) = G1
      have kp1 : ∀ b o, H b = some o → b ≠ r → G1 b = some o := fun b o e hb => by rw [← hG1, upd_ne hb]; exact e
      have hR1 : G1 r = some (.lst (ivs (Klm.add l (Klm.way g) a))) := by rw [← hG1]; exact upd_same
      have M1 := M.keep80 rt hR hl kp1
      refine ⟨_, rfl, _, rfl, p, CM, dx, _, _, rfl, M1.ob, T.clM, T.nSides, mc_sides, _, rfl, ls, _, _, _, rfl, rfl, SqL.of M1.sides, atI_nat htm, _, rfl, _, _, rfl, rfl, t, _, _, _, rfl, rfl, SqT.of (M1.tup k t g ht hg), at_of (j := 1 - g.tilt) (by omega) (side_other tg), ?_⟩
      refine ⟨r, _, (if g.tilt = 0 then g.right else g.left), _, rfl, rfl, SqL.of hR1, ivs_get (getD_of (by rw [add_len, hl]; exact hw2)), _, rfl, _, rfl, _, _, rfl, rfl, _, _, rfl, rfl, r, _, _, _, rfl, rfl, hR1, ixN_nat (by rw [ivs_len, add_len, hl]; exact hw2), ?_⟩
      have ed : ((l.getD k 0 : Nat) : Int) - (a : Int) = ((l.getD k 0 - a : Nat) : Int) := by omega
      rw [ed, ivs_add]
      have est : Klm.add (Klm.add l (Klm.way g) a) (if g.tilt = 0 then g.right else g.left) (l.getD k 0 - a) = stepP g k l := by unfold stepP; rw [← ha]
      rw [est]
      exact q _ upd_same fun b o e hb => by rw [upd_ne hb]; exact kp1 b o e hb
    obtain ⟨tm, hR1, hR2⟩ := R
    refine ⟨_, pss_cons (ps_set (i := 3) scPa.nd rfl (Or.inl rfl) (pe_ix ix_list (pv 2) (pv 1) (fun _ _ => rfl)))
      (pss_cons (ps_set (i := 4) scPa.nd rfl (Or.inl rfl) (pe_cal cT hr rfl (pa_cons (pv 0) (pa_cons (pv 1) pa_nil))))
      (pss_cons (ps_if (pt_cmpR op_eq (pe_ix ix_list (pe_fld (pv 0) rfl) (pv 1) (fun _ _ => rfl)) (pe_kc T.kStays rfl) (nomark _)) (pss_one (ps_set (i := 5) scPa.nd rfl (Or.inl rfl) (pv 3)))
        (pss_one (ps_set (i := 5) scPa.nd rfl (Or.inl rfl) (pe_op op_fdiv (pe_op op_add (pv 3) pe_int) pe_int)))) hR1)), ?_⟩
    refine ⟨_, rfl, _, rfl, r, _, _, _, rfl, rfl, SqL.of hR, atI_nat (ivs_get (getD_of (by rw [hl]; omega))), ?_⟩
    refine ⟨_, rfl, _, rfl, p, k, m, g, rfl, rt.tl, hg, ⟨dx, lk, ls, lf, le, ll, ts, M⟩, ?_⟩
    refine ⟨_, rfl, p, CM, dx, _, _, rfl, M.ob, T.clM, T.nKinds, mc_kinds, _, rfl, lk, _, _, _, rfl, rfl, SqL.of M.kinds, atI_nat hkind, rfl, _, rfl, ite2 (fun h1 => ?_) (fun h1 => ?_)⟩
    · have h1 : g.kind = 1 := by
        have := of_decide_eq_true h1
        injection this with z
        omega
      refine ⟨_, rfl, ?_⟩
      exact hR2 (l.getD k 0) (by unfold aheadN; rw [if_pos h1])
    · have h1 : ¬ g.kind = 1 := fun z => h1 (decide_eq_true (by rw [z]; rfl))
      refine ⟨_, rfl, _, _, rfl, rfl, _, _, rfl, rfl, ⟨by decide, by decide⟩, ?_⟩
      have := hR2 ((l.getD k 0 + 1) / 2) (by unfold aheadN; rw [if_neg h1])
      have ez : (((l.getD k 0 + 1) / 2 : Nat) : Int) = (((l.getD k 0 : Nat) : Int) + 1) / 2 := by omega
      unfold iv at this
      rw [ez] at this
      exact this
theorem scAr : FnScope ["machine", "entry", "count", "arrived", "number"] ["machine", "entry", "count"] (defScope sArr) := ⟨rfl, rfl, rfl, by decide +kernel, rfl, by decide +kernel, by decide +kernel⟩
theorem ok_arr (D : Dn K mg "arrivals" sArr ["machine", "entry", "count"]) (T : Txt K mg CR CM CB) (cP : Cal P w K mg base "pass_gate" 2 ["machine", "number", "arrived"] (spPass CM)) : Cal P w K mg base "arrivals" 3 ["machine", "entry", "count"] (spArr CM) := by
  refine D.ok scAr (fun vs H Q E h => ?_) (fun f cdv A outer s H vs Q E hr h => ?_)
  · obtain ⟨p, e, c, m, rfl, _⟩ := h
    rfl
  · obtain ⟨p, e, c, m, rfl, he, rt, hge, ⟨dx, lk, ls, lf, le, ll, ts, M⟩, q⟩ := h
    obtain ⟨w0, he1, he2, pl0⟩ := entry_at rt he
    have hn := rt.n
    have hw0 : w0 < 80 := by unfold Pl at pl0; omega
    refine ⟨_, pss_cons (ps_set (i := 3) scAr.nd rfl (Or.inl rfl) (pe_op op_rep (pe_lst (pa_cons pe_int pa_nil)) (pe_op op_add (pe_kc T.kExit rfl) (pe_kc T.kExits rfl))))
      (pss_cons (ps_asg (pv 2) (pg_sub (pv 3) (pe_ix ix_list (pe_fld (pv 0) rfl) (pv 1) (fun _ _ => rfl)) set_list))
      (pss_cons (ps_for PassesOwn.never rfl (pi_range1 rfl T.rng (pa_cons (pe_callB call_len_seq (by rfl) T.len PySem.boot_len (pa_cons (pe_fld (pv 0) rfl) pa_nil)) pa_nil)) (pg_name (i := 4) scAr.nd rfl (Or.inl rfl))
        (pss_one (ps_expr (pe_cal cP hr rfl (pa_cons (pv 0) (pa_cons (pv 4) (pa_cons (pv 3) pa_nil)))))))
      (pss_one (ps_ret (pv 3))))), ?_⟩
    refine ⟨(by show 1 ≤ sizeLine; decide), fun z hz => ?_⟩
    refine ⟨_, _, rfl, rfl, z, _, _, rfl, rfl, upd_same, by decide, by decide, (by show 1 * 80 ≤ sizeLine; decide), fun r hr2 => ?_⟩
    have er : (List.replicate (((64 : Int) + 16).toNat) [V.int 0]).flatten = ivs (List.replicate 80 0) := rfl
    rw [er]
    have hrH : H r = none := by
      cases zz : H r with
      | none => rfl
      | some o =>
        rw [upd_ne (ne_of_none zz hz), zz] at hr2
        cases hr2
    generalize hG : upd (upd H z (.lst [V.int 0])) r (.lst (ivs (List.replicate 80 0))) = G
    have sG : Same H G := fun b o e => by
      rw [← hG, upd_ne (ne_of_none e hrH), upd_ne (ne_of_none e hz)]; exact e
    have hrG : G r = some (.lst (ivs (List.replicate 80 0))) := by rw [← hG]; exact upd_same
    have M0 := M.same sG
    refine ⟨_, rfl, _, rfl, _, rfl, p, CM, dx, _, _, rfl, M0.ob, T.clM, T.nEntries, mc_entries, _, rfl, le, _, _, _, rfl, rfl, SqL.of M0.entries, atI_nat (ivs_get he1), r, _, _, w0, rfl, rfl, hrG, ixN_nat (by rw [ivs_len, List.length_replicate]; exact hw0), ?_⟩
    have e0 : (ivs (List.replicate 80 0)).set w0 (iv c) = ivs (Klm.add (List.replicate 80 0) w0 c) := by
      rw [ivs_set]
      unfold Klm.add
      have : (List.replicate 80 0).getD w0 0 = 0 := by
        rw [List.getD_eq_getElem?_getD, List.getElem?_replicate, if_pos hw0]; rfl
      rw [this, Nat.zero_add]
    rw [e0]
    unfold flowE at q
    rw [he2] at q
    generalize hG1 : upd G r (.lst (ivs (Klm.add (List.replicate 80 0) w0 c))) = G1
    generalize hl0 : Klm.add (List.replicate 80 0) w0 c = l0 at hG1 q
    have l0len : l0.length = 80 := by rw [← hl0, add_len, List.length_replicate]
    have kp1 : ∀ b o, G b = some o → b ≠ r → G1 b = some o := fun b o e hb => by rw [← hG1, upd_ne hb]; exact e
    have hr1 : G1 r = some (.lst (ivs l0)) := by rw [← hG1]; exact upd_same
    have s1 : Same H G1 := fun b o e => kp1 _ _ (sG b o e) (ne_of_none e hrH)
    have M1 := M.same s1
    refine ⟨_, rfl, p, CM, dx, _, _, rfl, M1.ob, T.clM, T.nKinds, mc_kinds, lk, _, rfl, .inl (SqL.of M1.kinds), _, rfl, by omega, by rw [ivs_len, List.length_map]; omega, ?_⟩
    rw [Int.toNat_natCast, ivs_len, List.length_map]
    refine for_range (lo := 0) (n := m.gates.length) (fun i σ H' => ∃ v4 : Option V, σ = [some (.ref p), some (iv e), some (iv c), some (.ref r), v4] ∧ H' r = some (.lst (ivs (Klm.flows i m 0 l0))) ∧ Same H H')
      ⟨none, rfl, hr1, s1⟩ (fun i σ H' hi ⟨v4, e1, hR, s2⟩ => ?_) (fun σ H' ⟨v4, e1, hR, s2⟩ => ?_)
    · subst e1
      have hg : m.gates[i]? = some m.gates[i] := List.getElem?_eq_getElem hi
      generalize m.gates[i] = g at hg
      have hk := kind_le hge hg
      have hlen : (Klm.flows i m 0 l0).length = 80 := by rw [flows_len]; exact l0len
      refine ⟨_, rfl, _, rfl, _, rfl, p, r, i, m, g, Klm.flows i m 0 l0, ?_, rt, hg, hk, hlen, ⟨dx, lk, ls, lf, le, ll, ts, M.same s2⟩, hR, fun H2 hR2 kp2 => ?_⟩
      · show [V.ref p, V.int ((0 : Int) + (i : Int)), V.ref r] = [V.ref p, V.int (i : Int), V.ref r]
        rw [Int.zero_add]
      · refine ⟨_, rfl, ?_, fun b o e => kp2 b o (s2 b o e) (ne_of_none e hrH)⟩
        have ef := flows_last (m := m) i 0 l0 (by omega)
        rw [Nat.zero_add] at ef
        rw [ef, ← stepP_is hg (rt.g i g hg).2.1 hk]
        exact hR2
    · subst e1
      exact ⟨_, rfl, q H' r s2 hrH hR⟩
theorem scLm : FnScope ["machine", "entry", "count", "arrived", "number"] ["machine", "entry", "count"] (defScope sLgm) := ⟨rfl, rfl, rfl, by decide +kernel, rfl, by decide +kernel, by decide +kernel⟩
theorem ok_lgm (D : Dn K mg "let_go_many" sLgm ["machine", "entry", "count"]) (T : Txt K mg CR CM CB) (cA : Cal P w K mg base "arrivals" 3 ["machine", "entry", "count"] (spArr CM)) : Cal P w K mg base "let_go_many" 4 ["machine", "entry", "count"] (spLgm CM) := by
  refine D.ok scLm (fun vs H Q E h => ?_) (fun f cdv A outer s H vs Q E hr h => ?_)
  · obtain ⟨p, e, c, m, rfl, _⟩ := h
    rfl
  · obtain ⟨p, e, c, m, rfl, he, rt, hge, ⟨dx, lk, ls, lf, le, ll, ts, M⟩, q⟩ := h
    have hn := rt.n
    refine ⟨_, pss_cons (ps_set (i := 3) scLm.nd rfl (Or.inl rfl) (pe_cal cA hr rfl (pa_cons (pv 0) (pa_cons (pv 1) (pa_cons (pv 2) pa_nil)))))
      (pss_cons (ps_for PassesOwn.never rfl (pi_range1 rfl T.rng (pa_cons (pe_callB call_len_seq (by rfl) T.len PySem.boot_len (pa_cons (pe_fld (pv 0) rfl) pa_nil)) pa_nil)) (pg_name (i := 4) scLm.nd rfl (Or.inl rfl))
        (pss_one (ps_if (pt_cmpR op_eq (pe_op op_mod (pe_ix ix_list (pv 3) (pv 4) (fun _ _ => rfl)) pe_int) pe_int (nomark _)) (pss_one (ps_fld (pv 0) (pe_op op_xor (pe_fld (pv 0) rfl) (pe_ix ix_list (pe_fld (pv 0) rfl) (pv 4) (fun _ _ => rfl))) rfl)) pss_nil)))
      (pss_one (ps_ret (pe_slice sl_list (pv 3) (po_some (pe_kc T.kExit rfl)) po_none)))), ?_⟩
    refine ⟨_, rfl, _, rfl, _, rfl, p, e, c, m, rfl, he, rt, hge, ⟨dx, lk, ls, lf, le, ll, ts, M⟩, fun G r sG hrH hrG => ?_⟩
    have em := many_to (c := c) rt (w := m.entries.getD e 64) rfl
    have efl : Klm.flows m.gates.length m 0 (Klm.add (List.replicate 80 0) (m.entries.getD e 64) c) = flowE m e c := rfl
    rw [efl] at em
    have hlen := flowE_len m e c
    generalize flowE m e c = L at hrG em hlen
    have M0 := M.same sG
    refine ⟨_, rfl, p, CM, dx, _, _, rfl, M0.ob, T.clM, T.nKinds, mc_kinds, lk, _, rfl, .inl (SqL.of M0.kinds), _, rfl, by omega, by rw [ivs_len, List.length_map]; omega, ?_⟩
    rw [Int.toNat_natCast, ivs_len, List.length_map]
    refine for_range (lo := 0) (n := m.gates.length) (fun i σ H' => ∃ v4 : Option V, σ = [some (.ref p), some (iv e), some (iv c), some (.ref r), v4] ∧ McAt CM H' p (mTo m L i) dx lk ls lf le ll ts ∧ H' r = some (.lst (ivs L)) ∧ But p G H')
      ⟨none, rfl, by rw [mTo_zero]; exact M0, hrG, But.refl _ _⟩ (fun i σ H' hi ⟨v4, e1, MA, hR, kp⟩ => ?_) (fun σ H' ⟨v4, e1, MA, hR, kp⟩ => ?_)
    · subst e1
      have hg : m.gates[i]? = some m.gates[i] := List.getElem?_eq_getElem hi
      generalize m.gates[i] = g at hg
      have hk := kind_le hge hg
      have sh := mTo_sh rt hge L i (by omega)
      have hiL : i < L.length := by omega
      have himt : i < (mTo m L i).gates.length := by rw [sh.len]; exact hi
      refine ⟨_, rfl, _, rfl, r, _, _, _, rfl, rfl, SqL.of hR, at_of (j := i) (Int.zero_add _) (ivs_get (getD_of hiL)), _, _, rfl, rfl, (by show (0 : Int) < 2; decide), rfl, _, rfl, ite2 (fun h1 => ?_) (fun h1 => ?_)⟩
      · have h1 : L.getD i 0 % 2 = 1 := by
          have := of_decide_eq_true h1
          injection this with z
          omega
        refine ⟨_, rfl, p, CM, dx, _, _, rfl, MA.ob, T.clM, T.nTilts, mc_tilts, _, rfl, p, CM, dx, _, _, rfl, MA.ob, T.clM, T.nFlips, mc_flips, _, rfl, lf, _, _, _, rfl, rfl, SqL.of MA.flips, at_of (j := i) (Int.zero_add _) (flips_at himt), _, _, rfl, rfl, _, rfl, p, CM, dx, _, rfl, MA.ob, T.clM, T.nTilts, (by show 6 < 1000; decide), ?_⟩
        have hgi := mTo_gate (L := L) hg
        have eb : Builtin.bitXor ((Klm.bits (mTo m L i).gates : Nat) : Int) ((flipN ((mTo m L i).gates.map (·.kind)) i : Nat) : Int) = ((Klm.bits (Klm.passed (mTo m L i) i).gates : Nat) : Int) := by rw [bitXor_nat, passed_bits hgi sh.t]
        have est := mTo_step (L := L) hg hk
        rw [if_pos h1] at est
        have npr : p ≠ r := ne_of MA.ob hR (by intro z; cases z)
        have fin : ∃ v4 : Option V, ([some (.ref p), some (iv e), some (iv c), some (.ref r), some (.int (0 + (i : Int)))] : L2.St) = [some (.ref p), some (iv e), some (iv c), some (.ref r), v4] ∧
            McAt CM (upd H' p (.ins CM dx (mcF lk (Klm.bits (Klm.passed (mTo m L i) i).gates : Int) ls lf le ll))) p (mTo m L (i + 1)) dx lk ls lf le ll ts ∧
            (upd H' p (.ins CM dx (mcF lk (Klm.bits (Klm.passed (mTo m L i) i).gates : Int) ls lf le ll))) r = some (.lst (ivs L)) ∧ But p G (upd H' p (.ins CM dx (mcF lk (Klm.bits (Klm.passed (mTo m L i) i).gates : Int) ls lf le ll))) := by
          refine ⟨_, rfl, ?_, ?_, kp.trans (But.upd _ _ _)⟩
          · rw [est]; exact MA.turn (passed_sh hgi sh.t)
          · rw [upd_ne npr.symm]; exact hR
        rw [← eb, ← mc_put (T := (Klm.bits (mTo m L i).gates : Int))] at fin
        exact fin
      · have h1 : ¬ L.getD i 0 % 2 = 1 := fun z => h1 (decide_eq_true (by
          have : ((L.getD i 0 : Nat) : Int) % 2 = 1 := by omega
          show V.int (((L.getD i 0 : Nat) : Int) % 2) = V.int 1
          rw [this]))
        have est := mTo_step (L := L) hg hk
        rw [if_neg h1] at est
        exact ⟨_, rfl, by rw [est]; exact MA, hR, kp⟩
    · subst e1
      refine ⟨_, rfl, _, rfl, r, _, rfl, SqL.of hR, fun u hu => ?_⟩
      rw [em] at q
      have suH : Same H' (upd H' u (.lst (cutV (ivs L) (some 64) none))) := Same.new hu
      have nup : u ≠ p := fun z => by rw [z, MA.ob] at hu; cases hu
      have kpH : But p H H' := (But.same sG).trans kp
      refine q _ u ⟨dx, lk, ls, lf, le, ll, ts, MA.same suH⟩ (kpH.trans (But.same suH)) ?_ ?_
      · cases zz : H u with
        | none => rfl
        | some o => rw [kpH u o zz nup] at hu; cases hu
      · rw [upd_same, cut64 _ hlen]
end
end Mg
set_option Elab.async false
set_option linter.all false
set_option maxRecDepth 100000
set_option maxHeartbeats 2000000
/-! Marbles: how many doublings till all is back. -/
namespace Mg
open PySem PySem.Spec PyProof.Rows L2
abbrev sHalv : Stmt := top 38
abbrev sDbl : Stmt := top 39
/-! ### bit_length -/
def rBitLen : V → List V → Hp → VK → Prop := fun x vs H Q => ∃ i : Int, x = .int i ∧ vs = [] ∧ Q (.int ((Builtin.Int.intBits i : Nat) : Int)) H
theorem mt_bitlen {X : Cx} : MtR X "int.bit_length" rBitLen := by
  intro pins s σ H x xs v us Q I rx rv h
  obtain ⟨i, rfl, rfl, q⟩ := h
  obtain ⟨t, rfl⟩ := rx
  cases rv
  exact call_gives PySem.F.slot_int_bit_length (typeIs_int s i t) PySem.F.entry_int_bit_length (PySem.F.args_int_bit_length_1 _) (PySem.AutoIntG2.int_bit_length_int_0 i t) ⟨.int _, H, I.tok _, ⟨_, rfl⟩, q⟩
theorem bits_low {n : Nat} (h : 0 < n) : ((Builtin.Int.intBits (Builtin.bitAnd (n : Int) (-(n : Int))) : Nat) : Int) - 1 = ((halv n : Nat) : Int) := by
  have e : Builtin.bitAnd (n : Int) (-(n : Int)) = ((n - (n &&& (n - 1)) : Nat) : Int) := by
    rw [bitAnd_pn (Int.natCast_nonneg _) (by omega)]
    have e2 : (Builtin.bitNot (-(n : Int))).toNat = n - 1 := by
      unfold Builtin.bitNot
      omega
    rw [e2, Int.toNat_natCast]
    have := Nat.and_le_left (n := n) (m := n - 1)
    omega
  have p := low_pos h
  rw [e]
  unfold Builtin.Int.intBits halv
  generalize n - (n &&& (n - 1)) = z at p
  have hz : (((z : Nat) : Int) == 0) = false := by
    rw [beq_eq_false_iff_ne]
    omega
  rw [hz, Int.natAbs_natCast]
  simp
/-! ### max(xs, default=d) -/
section
variable {prog : Program} {w : World} {A : Around} {E : Value → Shared → Prop} {s : Shared} {l : Addr} {its : List Value} {ns : List Int} {Q : Value → Shared → Prop} {d : Int} {td : Tok}
theorem maxD_raw (hh : A.handled = none) (hl : s.heap.IsList l its.toArray) (hi : IntsAre its ns)
    (h : ∀ h' tk M t', (∀ b o, s.heap.get? b = some o → h'.get? b = some o) → ((ns = [] ∧ M = d) ∨ (M ∈ ns ∧ ∀ a ∈ ns, a ≤ M)) → Q (.int M t') { s with heap := h', toks := tk }) :
    wpAny (model prog w) A (call (.builtin "max") [.ref l] [(Str.ofString "default", .int d td)]) Q E s := by
  obtain ⟨xs, e⟩ := hi.allInts.items
  have en : numsOf (intItems xs).toList = ns := by rw [← e]; exact hi.numsOf
  rw [nums_intItems] at en
  subst en
  rw [e] at hl
  have hsz : (intItems xs).size = xs.size := by simp [intItems]
  refine maxD_walk (iter_intList hl fun s2 e2 st hfp hlI => ?_)
  subst e2
  refine ⟨_, _, _, _, _, _, _, rfl, Walks.list (A := A.in1) hh _ l hlI (intItems xs), st, hfp, CmpOf.ints_gt (numAt xs) (fun _ _ => intItems_at), fun v h' tk hv hk => ?_⟩
  have kept := old_kept hk
  rcases hv with ⟨e0, rfl⟩ | ⟨hp, hP⟩
  · refine h h' tk _ _ kept (.inl ⟨List.eq_nil_of_length_eq_zero ?_, rfl⟩)
    rw [List.length_map, Array.length_toList, ← hsz]
    exact e0
  · rw [hsz] at hp hP
    obtain ⟨t, rfl⟩ := intItems_at hP
    obtain ⟨h1, h2⟩ := argBest_gt (numAt xs) (xs.size - 1)
    refine h h' tk _ t kept (.inr ⟨?_, fun a ha => ?_⟩)
    · rw [numAt_eq]; exact PySem.getD_mem (by rw [List.length_map, Array.length_toList]; omega)
    · obtain ⟨j, hj, rfl⟩ := mem_getD ha
      rw [List.length_map, Array.length_toList] at hj
      rw [← numAt_eq]; exact h2 j (by omega)
end
def tMaxD (K : PySem.W.Frag) (t tk : TA) : TE := fun σ H Q => t σ H fun vs H1 => tk σ H1 fun zs H2 => ∃ (a : Addr) (ns : List Int) (d : Int), vs = [.ref a] ∧ zs = [.int d] ∧ SqL K H2 a (ns.map V.int) ∧
  ∀ m : Int, ((ns = [] ∧ m = d) ∨ (m ∈ ns ∧ ∀ y ∈ ns, y ≤ m)) → Q (.int m) H2
theorem pe_maxD {X : Cx} {e de : Expr} {t tk : TA} {p pos kpos : Pos} (hc : X.calm = true) (hg : Gl X "max") (hm : X.mg "max" = none) (ha : PA X [e] t) (hk : PK X [⟨some (Str.ofString "default"), de, kpos⟩] tk)
    (he : backTo pos (starEach [e] X.env) = (false, eval e X.env) :: backTo pos (starEach [] X.env) := by rfl) (hpl : (backTo pos (starEach [e] X.env)).any (·.1) = false := by rfl) :
    PE X (.Call (.Name "max" p) [e] [⟨some (Str.ofString "default"), de, kpos⟩] pos) (tMaxD X.K t tk) := by
  intro pins s σ H Q I h
  refine wpAny_Call_Name_kw (ld_blt I hg hm boot_max ?_ (by decide) (by decide))
  refine PyProof.Rows.callWith_kw (thn (ha pos pins s σ H _ I h) fun us s1 ⟨vs, H1, I1, r1, q1⟩ => ?_) he hpl rfl rfl
  refine thn (hk pos pins s1 σ H1 _ I1 q1) fun ws s2 ⟨zs, H2, I2, r2, a, ns, d, ev, ez, hs, q⟩ => ?_
  subst ev
  subst ez
  obtain ⟨its, rv, hl, _⟩ := I2.list hs
  rw [Vals.ref1 r1]
  obtain ⟨u, rfl, td, rfl⟩ := vals1 r2
  exact maxD_raw (I2.ok.hd hc) hl.isList rv.ints fun h' tk' M t' k hM => ⟨.int _, H2, I2.kept k, ⟨_, rfl⟩, q M hM⟩
/-! ### the gates that tilt, by places -/
def tiltIx (m : Klm.Machine) (i : Nat) : List Nat := (List.range i).filter fun k => decide ((Klm.gate m k).kind = 0)
theorem tiltIx_yes {m : Klm.Machine} {i : Nat} (h : (Klm.gate m i).kind = 0) : tiltIx m (i + 1) = tiltIx m i ++ [i] := by
  unfold tiltIx
  rw [List.range_succ, List.filter_append, List.filter_cons, if_pos (by simpa using h), List.filter_nil]
theorem tiltIx_no {m : Klm.Machine} {i : Nat} (h : ¬ (Klm.gate m i).kind = 0) : tiltIx m (i + 1) = tiltIx m i := by
  unfold tiltIx
  rw [List.range_succ, List.filter_append, List.filter_cons, if_neg (by simpa using h), List.filter_nil, List.append_nil]
theorem tiltIx_mem {m : Klm.Machine} {i k : Nat} : k ∈ tiltIx m i ↔ k < i ∧ (Klm.gate m k).kind = 0 := by
  unfold tiltIx
  rw [List.mem_filter, List.mem_range, decide_eq_true_eq]
theorem tiltIx_len (m : Klm.Machine) (i : Nat) : (tiltIx m i).length ≤ i := by
  unfold tiltIx
  have := List.length_filter_le (fun k => decide ((Klm.gate m k).kind = 0)) (List.range i)
  rw [List.length_range] at this
  exact this
/-- what those gates ask for, L the flow -/
def asksOf (L : List Nat) (ks : List Nat) : List Int := (ks.filter fun k => decide (0 < L.getD k 0)).map fun k => 65 - ((halv (L.getD k 0) : Nat) : Int)
theorem asksOf_yes {L ks : List Nat} {k : Nat} (h : 0 < L.getD k 0) : asksOf L (ks ++ [k]) = asksOf L ks ++ [65 - ((halv (L.getD k 0) : Nat) : Int)] := by
  unfold asksOf
  rw [List.filter_append, List.filter_cons, if_pos (by simpa using h), List.filter_nil, List.map_append]
  rfl
theorem asksOf_no {L ks : List Nat} {k : Nat} (h : ¬ 0 < L.getD k 0) : asksOf L (ks ++ [k]) = asksOf L ks := by
  unfold asksOf
  rw [List.filter_append, List.filter_cons, if_neg (by simpa using h), List.filter_nil, List.append_nil]
theorem asks_is {m : Klm.Machine} (h : Rt m) {e : Nat} : Asks m (m.entries.getD e 64) (asksOf (flowE m e (2 ^ 64)) (tiltIx m m.gates.length)) := by
  intro z
  unfold asksOf
  rw [List.mem_map]
  constructor
  · rintro ⟨k, hk, rfl⟩
    rw [List.mem_filter, tiltIx_mem, decide_eq_true_eq] at hk
    obtain ⟨⟨hk, hz⟩, hp⟩ := hk
    have ev : (flowE m e (2 ^ 64)).getD k 0 = vis m (m.entries.getD e 64) (2 ^ 64) k := vis_end h hk
    rw [ev] at hp ⊢
    exact ⟨k, hk, hz, hp, rfl⟩
  · rintro ⟨k, hk, hz, hp, rfl⟩
    have ev : (flowE m e (2 ^ 64)).getD k 0 = vis m (m.entries.getD e 64) (2 ^ 64) k := vis_end h hk
    refine ⟨k, ?_, by rw [ev]⟩
    rw [List.mem_filter, tiltIx_mem, decide_eq_true_eq, ev]
    exact ⟨⟨hk, hz⟩, hp⟩
theorem pow64 : V.int ((1 : Int) * 2 ^ (64 : Int).toNat) = iv (2 ^ 64) := by
  have : (1 : Int) * 2 ^ (64 : Int).toNat = ((2 ^ 64 : Nat) : Int) := by decide
  unfold iv
  rw [this]
def spHalv : Sp := fun vs H Q _ => ∃ n : Nat, vs = [iv n] ∧ 0 < n ∧ Q (.int ((halv n : Nat) : Int)) H
def spDbl (CM : Addr) : Sp := fun vs H Q _ => ∃ (p : Addr) (e : Nat) (m : Klm.Machine), vs = [.ref p, iv e] ∧ e ≤ 3 ∧ Rt m ∧ Klm.geared m = false ∧ MachAt CM H p m ∧
  ∀ (H' : Hp) (j : Nat), Same H H' → ((List.range 65).find? fun j => Klm.back m e (2 ^ j)) = some j → Q (iv j) H'
section
variable {P : Program} {w : World} {K : PySem.W.Frag} {mg : Str → Option Value} {base : Heap} {CR CM CB : Addr}
theorem scHa : FnScope ["number"] ["number"] (defScope sHalv) := ⟨rfl, rfl, rfl, by decide +kernel, rfl, by decide +kernel, by decide +kernel⟩
theorem ok_halv (D : Dn K mg "halvings" sHalv ["number"]) : Cal P w K mg base "halvings" 1 ["number"] spHalv := by
  refine D.ok scHa (fun vs H Q E h => ?_) (fun f cdv A outer s H vs Q E hr h => ?_)
  · obtain ⟨n, rfl, _⟩ := h
    rfl
  · obtain ⟨n, rfl, hn, q⟩ := h
    refine ⟨_, pss_one (ps_ret (pe_op op_sub (pe_bm0 PySem.F.plainAttrs_int PySem.F.slot_int_bit_length PySem.F.type_int_bit_length mt_bitlen (pe_op op_and (pv 0) (pe_un un_neg (pv 0)))) pe_int)), ?_⟩
    refine ⟨_, rfl, _, rfl, _, rfl, _, _, rfl, rfl, rfl, _, rfl, rfl, _, _, rfl, rfl, ?_⟩
    show Q (V.int (((Builtin.Int.intBits (Builtin.bitAnd (n : Int) (-(n : Int))) : Nat) : Int) - 1)) H
    rw [bits_low hn]
    exact q
theorem scDb : FnScope ["machine", "entry", "arrived", "tilting", "asked", "number", "kind"] ["machine", "entry"] (defScope sDbl) := ⟨rfl, rfl, rfl, by decide +kernel, rfl, by decide +kernel, by decide +kernel⟩
theorem ok_dbl (D : Dn K mg "doublings_till_back" sDbl ["machine", "entry"]) (T : Txt K mg CR CM CB) (cA : Cal P w K mg base "arrivals" 3 ["machine", "entry", "count"] (spArr CM)) (cH : Cal P w K mg base "halvings" 1 ["number"] spHalv) :
    Cal P w K mg base "doublings_till_back" 4 ["machine", "entry"] (spDbl CM) := by
  refine D.ok scDb (fun vs H Q E h => ?_) (fun f cdv A outer s H vs Q E hr h => ?_)
  · obtain ⟨p, e, m, rfl, _⟩ := h
    rfl
  · obtain ⟨p, e, m, rfl, he, rt, hge, ⟨dx, lk, ls, lf, le, ll, ts, M⟩, q⟩ := h
    have hn := rt.n
    refine ⟨_, pss_cons (ps_set (i := 2) scDb.nd rfl (Or.inr rfl) (pe_cal cA hr rfl (pa_cons (pv 0) (pa_cons (pv 1) (pa_cons (pe_op op_shl pe_int (pe_kc T.kMost rfl)) pa_nil)))))
      (pss_cons (ps_setLc (i := 3) (own := [("number", 5), ("kind", 6)]) rfl scDb.nd rfl rfl rfl (pi_enum rfl T.enm (pa_cons (pe_fld (pv 0) rfl) pa_nil)) (blk_of (by rfl))
        (fun _ _ _ _ _ => pg_tupK (K := K) (n := 2) rfl (pgs_cons (pg_name (i := 5) scDb.nd rfl (Or.inl rfl)) (pgs_cons (pg_name (i := 6) scDb.nd rfl (Or.inl rfl)) pgs_nil)))
        (fun _ _ _ _ _ => pts_one (pt_cmpR op_eq (pv 6) (pe_kc T.kTilts rfl) (nomark _)))
        (fun _ _ _ _ _ => pv 5))
      (pss_cons (ps_setLc (i := 4) (own := [("number", 5)]) rfl scDb.nd rfl rfl rfl (pi_list (pv 3)) (blk_of (by rfl))
        (fun _ _ _ _ _ => pg_name (i := 5) scDb.nd rfl (Or.inl rfl))
        (fun _ _ _ _ _ => pts_one (pt_cmpR op_gt (pe_ix (ixl (K := K)) (pv 2) (pv 5) (fun _ _ => rfl)) pe_int (nomark _)))
        (fun _ _ _ _ _ => pe_op op_sub (pe_op op_add (pe_kc T.kMost rfl) pe_int) (pe_cal cH (hr.mono (by decide)) rfl (pa_cons (pe_ix (ixl (K := K)) (pv 2) (pv 5) (fun _ _ => rfl)) pa_nil))))
      (pss_one (ps_ret (pe_maxD rfl rfl T.mx (pa_cons (pv 4) pa_nil) (pk_cons pe_int pk_nil)))))), ?_⟩
    refine ⟨_, rfl, _, rfl, _, _, rfl, rfl, ⟨by decide, by decide, by decide⟩, p, e, 2 ^ 64, m, ?_, he, rt, hge, ⟨dx, lk, ls, lf, le, ll, ts, M⟩, fun G r sG hrH hrG => ?_⟩
    · show [V.ref p, iv e, V.int ((1 : Int) * 2 ^ (64 : Int).toNat)] = [V.ref p, iv e, iv (2 ^ 64)]
      rw [pow64]
    have ha := asks_is rt (e := e)
    have hlen := flowE_len m e (2 ^ 64)
    generalize flowE m e (2 ^ 64) = L at hrG ha hlen
    have M0 := M.same sG
    -- the gates that tilt
    refine ⟨_, rfl, p, CM, dx, _, _, rfl, M0.ob, T.clM, T.nKinds, mc_kinds, lk, _, rfl, SqL.of M0.kinds, fun L1 hL1 => ?_⟩
    refine lc_enum (K := K) (a := lk) (xs := ivs (m.gates.map (·.kind))) (fun i acc H' => Same G H' ∧ acc = ivs (tiltIx m i)) ⟨Same.new hL1, rfl⟩ (fun i H' acc ⟨s1, _⟩ => s1.seq (SqL.of M0.kinds))
      (fun i H' acc x U hi hx hD hl2 ⟨s1, e1⟩ hU => ?_) (fun G1 acc hD1 hl2 ⟨s1, e1⟩ => ?_)
    · have hig : i < m.gates.length := by rw [ivs_len, List.length_map] at hi; exact hi
      have hg : m.gates[i]? = some m.gates[i] := List.getElem?_eq_getElem hig
      generalize m.gates[i] = g at hg
      have hx2 : (ivs (m.gates.map (·.kind)))[i]? = some (iv g.kind) := ivs_get (by rw [List.getElem?_map, hg]; rfl)
      have ex : x = iv g.kind := Option.some.inj (hx.symm.trans hx2)
      subst ex
      have hLU : L1 ≠ U := fun z => by rw [← z, hD] at hU; cases hU
      have sU : Same G (upd H' U (.tup [.int (i : Nat), iv g.kind])) := s1.trans (Same.new hU)
      refine ⟨U, _, rfl, SqT.of upd_same, rfl, _, _, rfl, _, _, rfl, rfl, rfl, _, rfl, rfl, _, rfl, ite2 (fun h3 => ?_) (fun h3 => ?_)⟩
      · have h3 : g.kind = 0 := by
          have := of_decide_eq_true h3
          unfold iv at this
          injection this with z
          omega
        refine ⟨_, rfl, ?_⟩
        refine lc_put (acc := acc) (by rw [upd_ne hLU]; exact hD) hl2 (sz64 (by omega)) ⟨fun b o e => ?_, ?_⟩
        · rw [upd_ne (ne_of_none e hL1)]; exact sU b o e
        · rw [e1, tiltIx_yes (by rw [gate_of hg]; exact h3)]
          unfold ivs
          rw [List.map_append]
          rfl
      · have h3 : ¬ g.kind = 0 := fun z => h3 (decide_eq_true (by rw [z]; rfl))
        refine ⟨acc, by rw [upd_ne hLU]; exact hD, by omega, sU, ?_⟩
        rw [e1, tiltIx_no (by rw [gate_of hg]; exact h3)]
    rw [ivs_len, List.length_map] at e1
    have hT1 : G1 L1 = some (.lst (ivs (tiltIx m m.gates.length))) := by rw [hD1, e1]
    have hr1 := s1 _ _ hrG
    -- what they ask for
    refine ⟨_, rfl, L1, rfl, ⟨_, SqL.of hT1⟩, fun L2 hL2 => ?_⟩
    refine lc_list (K := K) (a := L1) (xs := ivs (tiltIx m m.gates.length)) (fun i acc H' => Same G1 H' ∧ acc = (asksOf L ((tiltIx m m.gates.length).take i)).map V.int) ⟨Same.new hL2, rfl⟩ (fun i H' acc ⟨s2, _⟩ => s2.seq (SqL.of hT1))
      (fun i H' acc x hi hx hD hl3 ⟨s2, e2⟩ => ?_) (fun G2 acc hD2 hl3 ⟨s2, e2⟩ => ?_)
    · have hi2 : i < (tiltIx m m.gates.length).length := by rw [ivs_len] at hi; exact hi
      have hk : (tiltIx m m.gates.length)[i]? = some (tiltIx m m.gates.length)[i] := List.getElem?_eq_getElem hi2
      have hmem := (tiltIx_mem (m := m) (i := m.gates.length)).mp (List.getElem_mem hi2)
      generalize (tiltIx m m.gates.length)[i] = k at hk hmem
      have ex : x = iv k := Option.some.inj (hx.symm.trans (ivs_get hk))
      subst ex
      have hkl : k < L.length := by omega
      have hix := ivs_get (getD_of hkl)
      have hle := tiltIx_len m m.gates.length
      refine ⟨rfl, _, rfl, _, rfl, r, _, _, _, rfl, rfl, SqL.of (s2 _ _ hr1), atI_nat hix, _, _, rfl, rfl, _, rfl, ite2 (fun h3 => ?_) (fun h3 => ?_)⟩
      · have h3 : 0 < L.getD k 0 := by
          have : (0 : Int) < ((L.getD k 0 : Nat) : Int) := of_decide_eq_true h3
          omega
        refine ⟨_, _, rfl, rfl, _, rfl, _, rfl, r, _, _, _, rfl, rfl, SqL.of (s2 _ _ hr1), atI_nat hix, L.getD k 0, rfl, h3, _, _, rfl, rfl, ?_⟩
        refine lc_put (acc := acc) hD hl3 (sz64 (by omega)) ⟨fun b o e => ?_, ?_⟩
        · rw [upd_ne (ne_of_none e hL2)]; exact s2 b o e
        · rw [e2, take_succ_of hk, asksOf_yes h3, List.map_append]
          rfl
      · have h3 : ¬ 0 < L.getD k 0 := fun z => h3 (decide_eq_true (by show (0 : Int) < ((L.getD k 0 : Nat) : Int); omega))
        refine ⟨acc, hD, by omega, s2, ?_⟩
        rw [e2, take_succ_of hk, asksOf_no h3]
    rw [ivs_len, List.take_length] at e2
    refine ⟨_, rfl, L2, _, 0, rfl, rfl, SqL.of (by rw [hD2, e2]), fun z hz => ?_⟩
    obtain ⟨w0, he1, he2, pl0⟩ := entry_at rt he
    have hw0 : m.entries.getD e 64 < 80 := by rw [he2]; unfold Pl at pl0; omega
    obtain ⟨j, ej, hj⟩ := find_back rt he rfl hw0 ha hz
    have := q G2 j ((sG.trans s1).trans s2) hj
    rw [ej]
    exact this
end
end Mg
set_option Elab.async false
set_option linter.all false
set_option maxRecDepth 100000
set_option maxHeartbeats 2000000
/-! Marbles: the calls on the board. -/
namespace Mg
open PySem PySem.Spec PyProof.Rows L2
abbrev sBuild : Stmt := top 40
abbrev sDrop : Stmt := top 41
abbrev sMany : Stmt := top 42
abbrev sRun : Stmt := top 43
abbrev sBack : Stmt := top 44
abbrev sTilt : Stmt := top 45
abbrev sState : Stmt := top 46
theorem But.free {p q : Addr} {H H1 : Hp} {o : HO} (k : But p H H1) (hp : H1 p = some o) (hq : H1 q = none) : H q = none := by
  cases z : H q with
  | none => rfl
  | some u =>
    have : q ≠ p := fun e => by rw [e, hp] at hq; cases hq
    rw [k q u z this] at hq
    cases hq
/-- what a call on the board leaves: its state, and the answer in a new list -/
def Out (CB CM : Addr) (H : Hp) (b : Addr) (r : KlmNeutral.S × List Int) (Q : VK) : Prop :=
  ∀ (H' : Hp) (q : Addr), StAt CB CM H' b r.1 → Kp H H' → H q = none → H' q = some (.lst (r.2.map V.int)) → r.2.length ≤ 18 → Q (.ref q) H'
theorem Out.same {CB CM b q : Addr} {H H1 : Hp} {S : KlmNeutral.S} {ys : List Int} {xs : List V} {Q : VK} (o : Out CB CM H b (S, ys) Q) (st : StAt CB CM H b S) (s : Same H H1) (hq : H1 q = none) (e : xs = ys.map V.int) (hl : ys.length ≤ 18) :
    Q (.ref q) (upd H1 q (.lst xs)) := by
  subst e
  have s2 : Same H (upd H1 q (.lst (ys.map V.int))) := s.trans (Same.new hq)
  exact o _ q (st.same s2) (Kp.same s2) (s.free hq) upd_same hl
theorem Out.turn {CB CM : Addr} {H H1 : Hp} {b p q dx db lk ls lf le ll : Addr} {ts : List Addr} {m m' : Klm.Machine} {ys : List Int} {xs : List V} {Q : VK} (o : Out CB CM H b (some m', ys) Q) (hb : H b = some (.ins CB db (bdF (.ref p))))
    (M : McAt CM H p m dx lk ls lf le ll ts) (k : But p H H1) (M1 : MachAt CM H1 p m') (rt : Rt m') (hq : H1 q = none) (e : xs = ys.map V.int) (hl : ys.length ≤ 18) : Q (.ref q) (upd H1 q (.lst xs)) := by
  subst e
  obtain ⟨d1, f1, ob1, _⟩ := M1.ob
  have hbp : b ≠ p := ne_of hb M.ob (by intro z; cases z)
  have s2 : Same H1 (upd H1 q (.lst (ys.map V.int))) := Same.new hq
  exact o _ q ⟨rt, db, p, s2 _ _ (k _ _ hb hbp), M1.same s2⟩ ((Kp.but k M.ob mc_at).trans (Kp.same s2)) (k.free ob1 hq) upd_same hl
theorem many_len (m : Klm.Machine) (e c : Nat) : (Klm.many m e c).2.length = 16 := by
  show ((Klm.flows 64 m 0 _).drop 64).length = 16
  rw [List.length_drop, flows_len, add_len, List.length_replicate]
theorem many_sh {m : Klm.Machine} (rt : Rt m) (hg : Klm.geared m = false) (e c : Nat) : Sh m (Klm.many m e c).1 := by
  rw [many_to rt (w := m.entries.getD e 64) rfl]
  exact mTo_sh rt hg _ _ (Nat.le_refl _)
theorem ivs_add1 {l : List Nat} {k : Nat} : (ivs l).set k (V.int (((l.getD k 0 : Nat) : Int) + 1)) = ivs (Klm.add l k 1) := ivs_add (v := 1)
theorem one_le : 1 ≤ sizeLine := by decide
/-! ### promises -/
def spDrop (CB CM : Addr) : Sp := fun vs H Q _ => ∃ (b : Addr) (e : Nat) (m : Klm.Machine), vs = [.ref b, iv e] ∧ StAt CB CM H b (some m) ∧ Out CB CM H b (KlmNeutral.step (some m) [[1, (e : Int)]]) Q
def spMany (CB CM : Addr) : Sp := fun vs H Q _ => ∃ (b : Addr) (e c : Nat) (m : Klm.Machine), vs = [.ref b, iv e, iv c] ∧ StAt CB CM H b (some m) ∧ Out CB CM H b (KlmNeutral.step (some m) [[2, (e : Int), (c : Int)]]) Q
def spRun (CB CM : Addr) : Sp := fun vs H Q _ => ∃ (b : Addr) (e n : Nat) (m : Klm.Machine), vs = [.ref b, iv e, iv n] ∧ StAt CB CM H b (some m) ∧ Out CB CM H b (KlmNeutral.step (some m) [[3, (e : Int), (n : Int)]]) Q
def spBack (CB CM : Addr) : Sp := fun vs H Q _ => ∃ (b : Addr) (e : Nat) (m : Klm.Machine), vs = [.ref b, iv e] ∧ StAt CB CM H b (some m) ∧ Out CB CM H b (KlmNeutral.step (some m) [[4, (e : Int)]]) Q
def spTilt (CB CM : Addr) : Sp := fun vs H Q _ => ∃ (b : Addr) (k t : Nat) (m : Klm.Machine), vs = [.ref b, iv k, iv t] ∧ StAt CB CM H b (some m) ∧ Out CB CM H b (KlmNeutral.step (some m) [[5, (k : Int), (t : Int)]]) Q
def spState (CB CM : Addr) : Sp := fun vs H Q _ => ∃ (b : Addr) (m : Klm.Machine), vs = [.ref b] ∧ StAt CB CM H b (some m) ∧ Out CB CM H b (KlmNeutral.step (some m) [[6]]) Q
def spBuild (CB CM : Addr) : Sp := fun vs H Q _ => ∃ (b a e l : Addr) (g es ls : List Int) (S : KlmNeutral.S), vs = [.ref b, .ref a, .ref e, .ref l] ∧ StAt CB CM H b S ∧ H a = some (.lst (g.map V.int)) ∧ H e = some (.lst (es.map V.int)) ∧ H l = some (.lst (ls.map V.int)) ∧
  KlmNeutral.asked1 [[0], g, es, ls] = true ∧ Out CB CM H b (KlmNeutral.step S [[0], g, es, ls]) Q
section
variable {P : Program} {w : World} {K : PySem.W.Frag} {mg : Str → Option Value} {base : Heap} {CR CM CB : Addr}
theorem scDr : FnScope ["board", "entry"] ["board", "entry"] (defScope sDrop) := ⟨rfl, rfl, rfl, by decide +kernel, rfl, by decide +kernel, by decide +kernel⟩
theorem ok_drop (D : Dn K mg "drop" sDrop ["board", "entry"]) (T : Txt K mg CR CM CB) (cE : Cal P w K mg base "is_entry" 1 ["entry"] spEntry) (cL : Cal P w K mg base "let_go" 1 ["machine", "entry"] (spLetGo CM)) :
    Cal P w K mg base "drop" 2 ["board", "entry"] (spDrop CB CM) := by
  refine D.ok scDr (fun vs H Q E h => ?_) (fun f cdv A outer s H vs Q E hr h => ?_)
  · obtain ⟨b, e, m, rfl, _⟩ := h
    rfl
  · obtain ⟨b, e, m, rfl, st, o⟩ := h
    obtain ⟨rt, db, p, hb, dx, lk, ls, lf, le, ll, ts, M⟩ := id st
    rw [step_drop] at o
    simp only [Int.toNat_natCast] at o
    refine ⟨_, pss_cons (ps_if (pt_not (pt_val (pe_cal cE hr rfl (pa_cons (pv 1) pa_nil)))) (pss_one (ps_ret (pe_lst (pa_cons (pe_kc T.kNot rfl) pa_nil)))) pss_nil)
      (pss_one (ps_ret (pe_lst (pa_cons (pe_cal cL hr rfl (pa_cons (pe_fld (pv 0) rfl) (pa_cons (pv 1) pa_nil))) pa_nil)))), ?_⟩
    refine ⟨_, rfl, (e : Int), rfl, _, rfl, ite2 (fun h1 => ?_) (fun h1 => ?_)⟩
    · have h1 : ¬ (e : Int) < 4 := by simpa using h1
      rw [if_pos (show 3 < e by omega)] at o
      exact ⟨one_le, fun q hq => o.same st (Same.refl H) hq rfl (by decide)⟩
    · have h1 : (e : Int) < 4 := by simpa using h1
      rw [if_neg (show ¬ 3 < e by omega)] at o
      have d := drop_ok rt (e := e) (by omega)
      refine ⟨_, rfl, b, CB, db, _, _, rfl, hb, T.clB, T.nMach, bd_mach, _, rfl, p, e, m, dx, lk, ls, lf, le, ll, ts, rfl, by omega, rt, M, fun H1 h2 k => ?_⟩
      exact ⟨one_le, fun q hq => o.turn hb M k ⟨dx, lk, ls, lf, le, ll, ts, M.move (Kl.but k M.ob) d.1 h2⟩ (rt.sh d.1) hq rfl (by show 1 ≤ 18; decide)⟩
theorem scMa : FnScope ["board", "entry", "count"] ["board", "entry", "count"] (defScope sMany) := ⟨rfl, rfl, rfl, by decide +kernel, rfl, by decide +kernel, by decide +kernel⟩
theorem ok_many (D : Dn K mg "many" sMany ["board", "entry", "count"]) (T : Txt K mg CR CM CB) (cE : Cal P w K mg base "is_entry" 1 ["entry"] spEntry) (cG : Cal P w K mg base "has_geared" 1 ["machine"] (spGeared CM))
    (cL : Cal P w K mg base "let_go_many" 4 ["machine", "entry", "count"] (spLgm CM)) : Cal P w K mg base "many" 5 ["board", "entry", "count"] (spMany CB CM) := by
  refine D.ok scMa (fun vs H Q E h => ?_) (fun f cdv A outer s H vs Q E hr h => ?_)
  · obtain ⟨b, e, c, m, rfl, _⟩ := h
    rfl
  · obtain ⟨b, e, c, m, rfl, st, o⟩ := h
    obtain ⟨rt, db, p, hb, dx, lk, ls, lf, le, ll, ts, M⟩ := id st
    rw [step_many] at o
    simp only [Int.toNat_natCast] at o
    refine ⟨_, pss_cons (ps_if (pt_not (pt_val (pe_cal cE (hr.mono (by decide)) rfl (pa_cons (pv 1) pa_nil)))) (pss_one (ps_ret (pe_lst (pa_cons (pe_kc T.kNot rfl) pa_nil)))) pss_nil)
      (pss_cons (ps_if (pt_val (pe_cal cG (hr.mono (by decide)) rfl (pa_cons (pe_fld (pv 0) rfl) pa_nil))) (pss_one (ps_ret (pe_lst (pa_cons (pe_kc T.kGeared rfl) pa_nil)))) pss_nil)
      (pss_one (ps_ret (pe_op op_cat (pe_lst (pa_cons pe_int pa_nil)) (pe_cal cL hr rfl (pa_cons (pe_fld (pv 0) rfl) (pa_cons (pv 1) (pa_cons (pv 2) pa_nil)))))))), ?_⟩
    refine ⟨_, rfl, (e : Int), rfl, _, rfl, ite2 (fun h1 => ?_) (fun h1 => ?_)⟩
    · have h1 : ¬ (e : Int) < 4 := by simpa using h1
      rw [if_pos (show 3 < e by omega)] at o
      exact ⟨one_le, fun q hq => o.same st (Same.refl H) hq rfl (by decide)⟩
    have h1 : (e : Int) < 4 := by simpa using h1
    rw [if_neg (show ¬ 3 < e by omega)] at o
    refine ⟨_, rfl, b, CB, db, _, _, rfl, hb, T.clB, T.nMach, bd_mach, p, m, rfl, rt, ⟨dx, lk, ls, lf, le, ll, ts, M⟩, fun H1 s1 => ⟨_, rfl, ite2 (fun h2 => ?_) (fun h2 => ?_)⟩⟩
    · rw [if_pos h2] at o
      exact ⟨one_le, fun q hq => o.same st s1 hq rfl (by decide)⟩
    have hge : Klm.geared m = false := by simpa using h2
    rw [if_neg (by rw [hge]; exact Bool.false_ne_true)] at o
    refine ⟨one_le, fun z hz => ?_⟩
    have s2 : Same H (upd H1 z (.lst [V.int 0])) := s1.trans (Same.new hz)
    have hpz : p ≠ z := ne_of_none (s1 _ _ M.ob) hz
    refine ⟨_, rfl, b, CB, db, _, _, rfl, s2 _ _ hb, T.clB, T.nMach, bd_mach, _, rfl, _, rfl, p, e, c, m, rfl, by omega, rt, hge, ⟨dx, lk, ls, lf, le, ll, ts, M.same s2⟩, fun H3 r MA k3 hr3 hr4 => ?_⟩
    refine ⟨z, r, _, _, rfl, rfl, k3 _ _ upd_same hpz.symm, hr4, ?_, fun q hq => ?_⟩
    · rw [ivs_len, many_len]; decide
    · refine o.turn hb M ((But.same s2).trans k3) MA (rt.sh (many_sh rt hge e c)) hq ?_ ?_
      · rw [ivs_int]; rfl
      · show (KlmNeutral.ints (Klm.many m e c).2).length + 1 ≤ 18
        unfold KlmNeutral.ints
        rw [List.length_map, many_len]
        decide
theorem scBk : FnScope ["board", "entry"] ["board", "entry"] (defScope sBack) := ⟨rfl, rfl, rfl, by decide +kernel, rfl, by decide +kernel, by decide +kernel⟩
theorem ok_back (D : Dn K mg "back" sBack ["board", "entry"]) (T : Txt K mg CR CM CB) (cE : Cal P w K mg base "is_entry" 1 ["entry"] spEntry) (cG : Cal P w K mg base "has_geared" 1 ["machine"] (spGeared CM))
    (cL : Cal P w K mg base "doublings_till_back" 4 ["machine", "entry"] (spDbl CM)) : Cal P w K mg base "back" 5 ["board", "entry"] (spBack CB CM) := by
  refine D.ok scBk (fun vs H Q E h => ?_) (fun f cdv A outer s H vs Q E hr h => ?_)
  · obtain ⟨b, e, m, rfl, _⟩ := h
    rfl
  · obtain ⟨b, e, m, rfl, st, o⟩ := h
    obtain ⟨rt, db, p, hb, dx, lk, ls, lf, le, ll, ts, M⟩ := id st
    rw [step_back] at o
    simp only [Int.toNat_natCast] at o
    refine ⟨_, pss_cons (ps_if (pt_not (pt_val (pe_cal cE (hr.mono (by decide)) rfl (pa_cons (pv 1) pa_nil)))) (pss_one (ps_ret (pe_lst (pa_cons (pe_kc T.kNot rfl) pa_nil)))) pss_nil)
      (pss_cons (ps_if (pt_val (pe_cal cG (hr.mono (by decide)) rfl (pa_cons (pe_fld (pv 0) rfl) pa_nil))) (pss_one (ps_ret (pe_lst (pa_cons (pe_kc T.kGeared rfl) pa_nil)))) pss_nil)
      (pss_one (ps_ret (pe_lst (pa_cons (pe_cal cL hr rfl (pa_cons (pe_fld (pv 0) rfl) (pa_cons (pv 1) pa_nil))) pa_nil))))), ?_⟩
    refine ⟨_, rfl, (e : Int), rfl, _, rfl, ite2 (fun h1 => ?_) (fun h1 => ?_)⟩
    · have h1 : ¬ (e : Int) < 4 := by simpa using h1
      rw [if_pos (show 3 < e by omega)] at o
      exact ⟨one_le, fun q hq => o.same st (Same.refl H) hq rfl (by decide)⟩
    have h1 : (e : Int) < 4 := by simpa using h1
    rw [if_neg (show ¬ 3 < e by omega)] at o
    refine ⟨_, rfl, b, CB, db, _, _, rfl, hb, T.clB, T.nMach, bd_mach, p, m, rfl, rt, ⟨dx, lk, ls, lf, le, ll, ts, M⟩, fun H1 s1 => ⟨_, rfl, ite2 (fun h2 => ?_) (fun h2 => ?_)⟩⟩
    · rw [if_pos h2] at o
      exact ⟨one_le, fun q hq => o.same st s1 hq rfl (by decide)⟩
    have hge : Klm.geared m = false := by simpa using h2
    rw [if_neg (by rw [hge]; exact Bool.false_ne_true)] at o
    refine ⟨_, rfl, b, CB, db, _, _, rfl, s1 _ _ hb, T.clB, T.nMach, bd_mach, _, rfl, p, e, m, rfl, by omega, rt, hge, ⟨dx, lk, ls, lf, le, ll, ts, M.same s1⟩, fun H3 j s3 hj => ?_⟩
    rw [hj] at o
    exact ⟨one_le, fun q hq => o.same st (s1.trans s3) hq rfl (by show 1 ≤ 18; decide)⟩
theorem scTi : FnScope ["board", "number", "side", "machine", "before"] ["board", "number", "side"] (defScope sTilt) := ⟨rfl, rfl, rfl, by decide +kernel, rfl, by decide +kernel, by decide +kernel⟩
theorem ok_tilt (D : Dn K mg "tilt" sTilt ["board", "number", "side"]) (T : Txt K mg CR CM CB) (cT : Cal P w K mg base "tilt_of" 1 ["machine", "number"] (spTiltOf CM)) : Cal P w K mg base "tilt" 2 ["board", "number", "side"] (spTilt CB CM) := by
  refine D.ok scTi (fun vs H Q E h => ?_) (fun f cdv A outer s H vs Q E hr h => ?_)
  · obtain ⟨b, k, t, m, rfl, _⟩ := h
    rfl
  · obtain ⟨b, k, t, m, rfl, st, o⟩ := h
    obtain ⟨rt, db, p, hb, dx, lk, ls, lf, le, ll, ts, M⟩ := id st
    have hn := rt.n
    rw [step_tilt] at o
    simp only [Int.toNat_natCast] at o
    refine ⟨_, pss_cons (ps_set (i := 3) scTi.nd rfl (Or.inl rfl) (pe_fld (pv 0) rfl))
      (pss_cons (ps_if (PW.pt (pw_or (pt_cmpR op_ge (pv 1) (pe_callB call_len_seq (by rfl) T.len PySem.boot_len (pa_cons (pe_fld (pv 3) rfl) pa_nil)) (nomark _)) (pw_or1 (pt_cmpR op_gt (pv 2) (pe_kc T.kRight rfl) (nomark _)))))
        (pss_one (ps_ret (pe_lst (pa_cons (pe_kc T.kNot rfl) pa_nil)))) pss_nil)
      (pss_cons (ps_set (i := 4) scTi.nd rfl (Or.inl rfl) (pe_cal cT hr rfl (pa_cons (pv 3) (pa_cons (pv 1) pa_nil))))
      (pss_cons (ps_fld (pv 3) (pe_op op_xor (pe_fld (pv 3) rfl) (pe_op op_shl (pe_op op_xor (pv 4) (pv 2)) (pv 1))) rfl)
      (pss_one (ps_ret (pe_lst (pa_cons (pv 4) pa_nil))))))), ?_⟩
    refine ⟨_, rfl, b, CB, db, _, _, rfl, hb, T.clB, T.nMach, bd_mach, ?_⟩
    refine ⟨_, rfl, _, rfl, p, CM, dx, _, _, rfl, M.ob, T.clM, T.nKinds, mc_kinds, lk, _, rfl, .inl (SqL.of M.kinds), _, _, rfl, rfl, _, rfl, ite2 (fun h1 => ?_) (fun h1 => ?_)⟩
    · have h1 : (((ivs (m.gates.map (·.kind))).length : Nat) : Int) ≤ (k : Int) := of_decide_eq_true h1
      rw [ivs_len, List.length_map] at h1
      rw [if_pos (show m.gates.length ≤ k ∨ 1 < t by omega)] at o
      exact iteT ⟨one_le, fun q hq => o.same st (Same.refl H) hq rfl (by decide)⟩
    have h1 : ¬ (((ivs (m.gates.map (·.kind))).length : Nat) : Int) ≤ (k : Int) := fun z => h1 (decide_eq_true z)
    rw [ivs_len, List.length_map] at h1
    refine ⟨_, rfl, _, _, rfl, rfl, _, rfl, ite2 (fun h2 => ?_) (fun h2 => ?_)⟩
    · have h2 : (1 : Int) < (t : Int) := of_decide_eq_true h2
      rw [if_pos (show m.gates.length ≤ k ∨ 1 < t by omega)] at o
      exact ⟨one_le, fun q hq => o.same st (Same.refl H) hq rfl (by decide)⟩
    have h2 : ¬ (1 : Int) < (t : Int) := fun z => h2 (decide_eq_true z)
    rw [if_neg (show ¬ (m.gates.length ≤ k ∨ 1 < t) by omega)] at o
    have hg : m.gates[k]? = some m.gates[k] := List.getElem?_eq_getElem (by omega)
    generalize m.gates[k] = g at hg
    rw [gate_of hg] at o
    have tg := (rt.g k g hg).2.1
    refine ⟨_, rfl, _, rfl, p, k, m, g, rfl, rt.tl, hg, ⟨dx, lk, ls, lf, le, ll, ts, M⟩, ?_⟩
    have hx : Builtin.bitXor ((g.tilt : Nat) : Int) ((t : Nat) : Int) = ((g.tilt ^^^ t : Nat) : Int) := bitXor_nat _ _
    have hx1 : g.tilt ^^^ t ≤ 1 := by
      rw [xor01 tg (by omega)]
      split <;> decide
    refine ⟨_, rfl, p, CM, dx, _, _, rfl, M.ob, T.clM, T.nTilts, mc_tilts, _, rfl, _, rfl, _, _, rfl, rfl, _, rfl, _, _, rfl, rfl, ⟨Int.natCast_nonneg _, by omega, ?_⟩, _, _, rfl, rfl, _, rfl, p, CM, dx, _, rfl, M.ob, T.clM, T.nTilts, (by show 6 < 1000; decide), ?_⟩
    · show (Builtin.bitXor ((g.tilt : Nat) : Int) ((t : Nat) : Int)).natAbs < 2 ^ 64
      rw [hx, Int.natAbs_natCast]
      omega
    have sh := tilt_sh rt hg (t := t) (by omega)
    have eb : Builtin.bitXor ((Klm.bits m.gates : Nat) : Int) (Builtin.bitXor ((g.tilt : Nat) : Int) ((t : Nat) : Int) * 2 ^ ((k : Nat) : Int).toNat) = ((Klm.bits (m.gates.set k { g with tilt := t }) : Nat) : Int) := by
      rw [hx, Int.toNat_natCast]
      have e2 : ((g.tilt ^^^ t : Nat) : Int) * 2 ^ k = (((g.tilt ^^^ t) * 2 ^ k : Nat) : Int) := by
        rw [Int.natCast_mul, Int.natCast_pow]
        rfl
      rw [e2, bitXor_nat, bits_tilt rt.tl hg (by omega)]
    have fin : ∀ q, (upd H p (.ins CM dx (mcF lk (Klm.bits (m.gates.set k { g with tilt := t }) : Int) ls lf le ll))) q = none →
        Q (.ref q) (upd (upd H p (.ins CM dx (mcF lk (Klm.bits (m.gates.set k { g with tilt := t }) : Int) ls lf le ll))) q (.lst [iv g.tilt])) := fun q hq =>
      o.turn hb M (But.upd _ _ _) ⟨dx, lk, ls, lf, le, ll, ts, M.turn sh⟩ (rt.sh sh) hq rfl (by show 1 ≤ 18; decide)
    rw [← eb, ← mc_put (T := (Klm.bits m.gates : Int))] at fin
    exact ⟨_, rfl, one_le, fin⟩
theorem scSt : FnScope ["board"] ["board"] (defScope sState) := ⟨rfl, rfl, rfl, by decide +kernel, rfl, by decide +kernel, by decide +kernel⟩
theorem ok_state (D : Dn K mg "state" sState ["board"]) (T : Txt K mg CR CM CB) : Cal P w K mg base "state" 1 ["board"] (spState CB CM) := by
  refine D.ok scSt (fun vs H Q E h => ?_) (fun f cdv A outer s H vs Q E hr h => ?_)
  · obtain ⟨b, m, rfl, _⟩ := h
    rfl
  · obtain ⟨b, m, rfl, st, o⟩ := h
    obtain ⟨rt, db, p, hb, dx, lk, ls, lf, le, ll, ts, M⟩ := id st
    rw [step_state] at o
    refine ⟨_, pss_one (ps_ret (pe_lst (pa_cons (pe_callB call_len_seq (by rfl) T.len PySem.boot_len (pa_cons (pe_fld (pe_fld (pv 0) rfl) rfl) pa_nil)) (pa_cons (pe_fld (pe_fld (pv 0) rfl) rfl) pa_nil)))), ?_⟩
    refine ⟨_, rfl, b, CB, db, _, _, rfl, hb, T.clB, T.nMach, bd_mach, p, CM, dx, _, _, rfl, M.ob, T.clM, T.nKinds, mc_kinds, lk, _, rfl, .inl (SqL.of M.kinds), _, rfl, b, CB, db, _, _, rfl, hb, T.clB, T.nMach, bd_mach, p, CM, dx, _, _, rfl, M.ob, T.clM, T.nTilts, mc_tilts, (by show 2 ≤ sizeLine; decide), fun q hq => ?_⟩
    refine o.same st (Same.refl H) hq ?_ (by show 2 ≤ 18; decide)
    rw [ivs_len, List.length_map]
    rfl
theorem scRu : FnScope ["board", "entry", "most", "machine", "came_out", "gone", "upcoming", "way_out"] ["board", "entry", "most"] (defScope sRun) := ⟨rfl, rfl, rfl, by decide +kernel, rfl, by decide +kernel, by decide +kernel⟩
theorem lev_at {m : Klm.Machine} (rt : Rt m) {x : Nat} (h : x < 16) : m.levers[x]? = some (m.levers.getD x 4) ∧ m.levers.getD x 4 ≤ 4 := by
  have hl : x < m.levers.length := by rw [rt.ll]; exact h
  rw [List.getD_eq_getElem?_getD, List.getElem?_eq_getElem hl]
  exact ⟨rfl, rt.l _ (List.getElem_mem hl)⟩
theorem ok_run (D : Dn K mg "run" sRun ["board", "entry", "most"]) (T : Txt K mg CR CM CB) (cE : Cal P w K mg base "is_entry" 1 ["entry"] spEntry) (cL : Cal P w K mg base "let_go" 1 ["machine", "entry"] (spLetGo CM)) :
    Cal P w K mg base "run" 2 ["board", "entry", "most"] (spRun CB CM) := by
  refine D.ok scRu (fun vs H Q E h => ?_) (fun f cdv A outer s H vs Q E hr h => ?_)
  · obtain ⟨b, e, n, m, rfl, _⟩ := h
    rfl
  · obtain ⟨b, e, n, m, rfl, st, o⟩ := h
    obtain ⟨rt, db, p, hb, dx, lk, ls, lf, le, ll, ts, M⟩ := id st
    rw [step_run] at o
    simp only [Int.toNat_natCast] at o
    refine ⟨_, pss_cons (ps_if (PW.pt (pw_or (pt_not (pt_val (pe_cal cE hr rfl (pa_cons (pv 1) pa_nil)))) (pw_or1 (pt_not (pt_chain op_le op_le pe_int (pv 2) (pe_kc T.kInRun rfl))))))
        (pss_one (ps_ret (pe_lst (pa_cons (pe_kc T.kNot rfl) pa_nil)))) pss_nil)
      (pss_cons (ps_set (i := 3) scRu.nd rfl (Or.inl rfl) (pe_fld (pv 0) rfl))
      (pss_cons (ps_set (i := 4) scRu.nd rfl (Or.inl rfl) (pe_op op_rep (pe_lst (pa_cons pe_int pa_nil)) (pe_kc T.kExits rfl)))
      (pss_cons (ps_set (i := 5) scRu.nd rfl (Or.inl rfl) pe_int)
      (pss_cons (ps_set (i := 6) scRu.nd rfl (Or.inl rfl) (pv 1))
      (pss_cons (ps_while PassesOwn.never (PW.pt (pw_and (pt_cmpR op_ne (pv 6) (pe_kc T.kNone rfl) (nomark _)) (pw_and1 (pt_cmpR op_lt (pv 5) (pv 2) (nomark _)))))
        (pss_cons (ps_set (i := 7) scRu.nd rfl (Or.inl rfl) (pe_cal cL hr rfl (pa_cons (pv 3) (pa_cons (pv 6) pa_nil))))
        (pss_cons (ps_augS (pv 4) (pv 7) get_list pe_int ip_add set_list)
        (pss_cons (ps_aug (i := 5) scRu.nd rfl (Or.inl rfl) pe_int ip_add)
        (pss_one (ps_set (i := 6) scRu.nd rfl (Or.inl rfl) (pe_ix ix_list (pe_fld (pv 3) rfl) (pv 7) (fun _ _ => rfl))))))))
      (pss_one (ps_ret (pe_op op_cat (pe_op op_cat (pe_lst (pa_cons (pv 5) pa_nil)) (pv 4)) (pe_lst (pa_cons (pv 6) pa_nil)))))))))), ?_⟩
    have bad : (3 < e ∨ n < 1 ∨ 10000 < n) → (1 ≤ sizeLine ∧ ∀ q, H q = none → Q (.ref q) (upd H q (.lst [V.int (-22)]))) := fun c => by
      rw [if_pos c] at o
      exact ⟨one_le, fun q hq => o.same st (Same.refl H) hq rfl (by decide)⟩
    refine ⟨_, rfl, (e : Int), rfl, _, rfl, ite2 (fun h1 => ?_) (fun h1 => ?_)⟩
    · have h1 : ¬ (e : Int) < 4 := by simpa using h1
      exact iteT (bad (by omega))
    have h1 : (e : Int) < 4 := by simpa using h1
    refine ⟨_, rfl, _, _, rfl, rfl, _, rfl, ite2 (fun h2 => ?_) (fun h2 => ?_)⟩
    rotate_left
    · have h2 : ¬ (1 : Int) ≤ (n : Int) := fun z => h2 (decide_eq_true z)
      exact ⟨_, rfl, iteT (bad (by omega))⟩
    have h2 : (1 : Int) ≤ (n : Int) := of_decide_eq_true h2
    refine ⟨_, _, rfl, rfl, _, rfl, ite2 (fun h3 => ?_) (fun h3 => ?_)⟩
    · have h3 : ¬ (n : Int) ≤ 10000 := by simpa using h3
      exact bad (by omega)
    have h3 : (n : Int) ≤ 10000 := by simpa using h3
    rw [if_neg (show ¬ (3 < e ∨ n < 1 ∨ 10000 < n) by omega)] at o
    refine ⟨_, rfl, b, CB, db, _, _, rfl, hb, T.clB, T.nMach, bd_mach, ?_⟩
    refine ⟨one_le, fun z hz => ?_⟩
    refine ⟨z, _, _, rfl, rfl, upd_same, by decide, by decide, (by show 1 * 16 ≤ sizeLine; decide), fun r hr2 => ?_⟩
    have er : (List.replicate ((16 : Int).toNat) [V.int 0]).flatten = ivs (List.replicate 16 0) := rfl
    rw [er]
    have hrH : H r = none := by
      cases zz : H r with
      | none => rfl
      | some u =>
        rw [upd_ne (ne_of_none zz hz), zz] at hr2
        cases hr2
    generalize hG : upd (upd H z (.lst [V.int 0])) r (.lst (ivs (List.replicate 16 0))) = G
    have sG : Same H G := fun b o e => by
      rw [← hG, upd_ne (ne_of_none e hrH), upd_ne (ne_of_none e hz)]; exact e
    have hrG : G r = some (.lst (ivs (List.replicate 16 0))) := by rw [← hG]; exact upd_same
    refine ⟨_, rfl, ?_⟩
    refine ⟨fun j σ H' => ∃ (m' : Klm.Machine) (l : List Nat) (e' : Nat) (wv : Option V), σ = [some (.ref b), some (iv e), some (iv n), some (.ref p), some (.ref r), some (iv l.sum), some (iv e'), wv] ∧ Sh m m' ∧ l.length = 16 ∧ l.sum ≤ n ∧ e' ≤ 4 ∧
      Klm.run n m e (List.replicate 16 0) = Klm.run (n - l.sum) m' e' l ∧ H' p = some (.ins CM dx (mcF lk (Klm.bits m'.gates : Int) ls lf le ll)) ∧ H' r = some (.lst (ivs l)) ∧ But p H H' ∧ j = n - l.sum,
      ⟨_, m, List.replicate 16 0, e, none, rfl, Sh.refl rt, rfl, Nat.zero_le _, by omega, rfl, sG _ _ M.ob, hrG, But.same sG, rfl⟩, ?_⟩
    rintro j σ H' ⟨m', l, e', wv, rfl, sh, hl, hle, he', hrun, hob, hR, kp, rfl⟩
    have rt' : Rt m' := rt.sh sh
    have fin : (e' = 4 ∨ n ≤ l.sum) → Klm.run n m e (List.replicate 16 0) = (m', l, e') := fun c => by
      rw [hrun]
      by_cases h4 : e' = 4
      · subst h4; exact run_stop _ _ _
      · rw [show n - l.sum = 0 by omega]
        rfl
    have out : (e' = 4 ∨ n ≤ l.sum) → ∀ (H4 : Hp) (q : Addr), Same H' H4 → H4 q = none → Q (.ref q) (upd H4 q (.lst (([iv l.sum] ++ ivs l) ++ [iv e']))) := fun c H4 q s4 hq => by
      rw [fin c] at o
      have MA : McAt CM H' p m' dx lk ls lf le ll ts := M.move (Kl.but kp M.ob) sh hob
      refine o.turn hb M (kp.trans (But.same s4)) ⟨dx, lk, ls, lf, le, ll, ts, MA.same s4⟩ rt' hq ?_ ?_
      · show ([iv l.sum] ++ ivs l) ++ [iv e'] = (((l.foldl (· + ·) 0 : Nat) : Int) :: KlmNeutral.ints (l ++ [e'])).map V.int
        rw [foldl_sum, Nat.zero_add, List.map_cons, ← ivs_int]
        unfold ivs iv
        rw [List.map_append]
        rfl
      · show (KlmNeutral.ints (l ++ [e'])).length + 1 ≤ 18
        unfold KlmNeutral.ints
        rw [List.length_map, List.length_append, hl]
        show 16 + 1 + 1 ≤ 18
        decide
    have last : (e' = 4 ∨ n ≤ l.sum) → ∀ x : Option V, ∃ v, ([some (.ref b), some (iv e), some (iv n), some (.ref p), some (.ref r), some (iv l.sum), some (iv e'), wv] : L2.St)[5]? = some (some v) ∧ [v].length ≤ sizeLine ∧ ∀ a1, H' a1 = none →
        ∃ v2, ([some (.ref b), some (iv e), some (iv n), some (.ref p), some (.ref r), some (iv l.sum), some (iv e'), wv] : L2.St)[4]? = some (some v2) ∧ rCat (.ref a1) v2 (upd H' a1 (.lst [v])) fun v3 H3 =>
        ∃ v4, ([some (.ref b), some (iv e), some (iv n), some (.ref p), some (.ref r), some (iv l.sum), some (iv e'), wv] : L2.St)[6]? = some (some v4) ∧ [v4].length ≤ sizeLine ∧ ∀ a2, H3 a2 = none → rCat v3 (.ref a2) (upd H3 a2 (.lst [v4])) Q := fun c _ => by
      refine ⟨iv l.sum, rfl, one_le, fun a1 h1 => ⟨.ref r, rfl, a1, r, [iv l.sum], ivs l, rfl, rfl, upd_same, ?_, ?_, fun c1 hc1 => ⟨iv e', rfl, one_le, fun a2 h2 => ⟨c1, a2, [iv l.sum] ++ ivs l, [iv e'], rfl, rfl, ?_, upd_same, ?_, fun q hq => ?_⟩⟩⟩⟩
      · rw [upd_ne (ne_of_none hR h1)]; exact hR
      · rw [ivs_len, hl]
        show 1 + 16 ≤ sizeLine
        decide
      · rw [upd_ne (fun z => by rw [← z, upd_same] at h2; cases h2)]; exact upd_same
      · rw [List.length_append, ivs_len, hl]
        show 1 + 16 + 1 ≤ sizeLine
        decide
      · exact out c _ q (((Same.new h1).trans (Same.new hc1)).trans (Same.new h2)) hq
    refine ⟨_, rfl, rfl, _, rfl, ite2 (fun h4 => ?_) (fun h4 => ?_)⟩
    rotate_left
    · have h4 : e' = 4 := by
        by_cases z : e' = 4
        · exact z
        · exfalso
          apply h4
          rw [decide_eq_false (fun q => z (by unfold iv at q; injection q with q; omega))]
          rfl
      exact iteF (last (.inl h4) none)
    have h4 : ¬ e' = 4 := fun z => by
      subst z
      rw [decide_eq_true (show iv 4 = V.int 4 from rfl)] at h4
      cases h4
    refine ⟨_, rfl, _, rfl, _, _, rfl, rfl, _, rfl, ite2 (fun h5 => ?_) (fun h5 => ?_)⟩
    rotate_left
    · have h5 : ¬ ((l.sum : Nat) : Int) < (n : Int) := fun z => h5 (decide_eq_true z)
      exact last (.inr (by omega)) none
    have h5 : ((l.sum : Nat) : Int) < (n : Int) := of_decide_eq_true h5
    have d := drop_ok rt' (e := e') (by omega)
    have hx := d.2
    have hgo := run_go (f := n - (l.sum + 1)) (m := m') (e := e') (l := l) (by omega)
    rw [show n - (l.sum + 1) + 1 = n - l.sum by omega] at hgo
    have rt2 : Rt (Klm.drop m' e').1 := rt'.sh d.1
    have sh2 := sh.trans d.1
    have hsum := add_sum l (Klm.drop m' e').2 1 (by rw [hl]; exact hx)
    refine ⟨fun σ' H2 => ∃ j', j' < n - l.sum ∧ ∃ (m' : Klm.Machine) (l : List Nat) (e' : Nat) (wv : Option V), σ' = [some (.ref b), some (iv e), some (iv n), some (.ref p), some (.ref r), some (iv l.sum), some (iv e'), wv] ∧ Sh m m' ∧ l.length = 16 ∧ l.sum ≤ n ∧ e' ≤ 4 ∧
      Klm.run n m e (List.replicate 16 0) = Klm.run (n - l.sum) m' e' l ∧ H2 p = some (.ins CM dx (mcF lk (Klm.bits m'.gates : Int) ls lf le ll)) ∧ H2 r = some (.lst (ivs l)) ∧ But p H H2 ∧ j' = n - l.sum, fun _ _ h => h, ?_⟩
    refine ⟨_, rfl, _, rfl, p, e', m', dx, lk, ls, lf, le, ll, ts, rfl, by omega, rt', M.move (Kl.but kp M.ob) sh hob, fun H2 ob2 k2 => ?_⟩
    have npr : r ≠ p := fun z => by rw [z, M.ob] at hrH; cases hrH
    have hR2 := k2 _ _ hR npr
    generalize Klm.drop m' e' = dd at d hx hgo rt2 sh2 hsum ob2
    obtain ⟨m2, x⟩ := dd
    dsimp only at d hx hgo rt2 sh2 hsum ob2
    refine ⟨_, rfl, _, rfl, r, _, x, _, rfl, rfl, SqL.of hR2, ivs_get (getD_of (by rw [hl]; exact hx)), _, _, rfl, rfl, r, _, _, _, rfl, rfl, hR2, ixN_nat (by rw [ivs_len, hl]; exact hx), ?_⟩
    rw [ivs_add1]
    generalize hH3 : upd H2 r (.lst (ivs (Klm.add l x 1))) = H3
    have hR3 : H3 r = some (.lst (ivs (Klm.add l x 1))) := by rw [← hH3]; exact upd_same
    have ob3 : H3 p = some (.ins CM dx (mcF lk (Klm.bits m2.gates : Int) ls lf le ll)) := by rw [← hH3, upd_ne npr.symm]; exact ob2
    have kp3 : But p H H3 := fun b o e hb => by rw [← hH3, upd_ne (ne_of_none e hrH)]; exact k2 b o (kp b o e hb) hb
    have M3 : McAt CM H3 p m2 dx lk ls lf le ll ts := M.move (Kl.but kp3 M.ob) sh2 ob3
    obtain ⟨lv1, lv2⟩ := lev_at rt2 hx
    refine ⟨_, rfl, _, _, rfl, rfl, ?_⟩
    refine ⟨_, rfl, p, CM, dx, _, _, rfl, ob3, T.clM, T.nLevers, mc_levers, _, rfl, ll, _, _, _, rfl, rfl, SqL.of M3.levers, atI_nat (ivs_get lv1), ?_⟩
    refine ⟨n - (l.sum + 1), by omega, m2, Klm.add l x 1, m2.levers.getD x 4, some (iv x), ?_, sh2, by rw [add_len]; exact hl, by rw [hsum]; omega, lv2, ?_, ob3, hR3, kp3, by rw [hsum]⟩
    · rw [hsum]
      unfold iv
      rw [Int.natCast_add]
      rfl
    · rw [hrun, hgo, hsum]
end
end Mg
set_option Elab.async false
set_option linter.all false
set_option maxRecDepth 100000
set_option maxHeartbeats 2000000
/-! Marbles: a machine is built on the board. -/
namespace Mg
open PySem PySem.Spec PyProof.Rows L2
theorem StAt.ob {CB CM : Addr} {H : Hp} {b : Addr} {S : KlmNeutral.S} (h : StAt CB CM H b S) : ∃ db v, H b = some (.ins CB db (bdF v)) := by
  cases S with
  | none =>
    obtain ⟨dx, e⟩ := h
    exact ⟨dx, _, e⟩
  | some m =>
    obtain ⟨_, dx, p, e, _⟩ := h
    exact ⟨dx, _, e⟩
section
variable {P : Program} {w : World} {K : PySem.W.Frag} {mg : Str → Option Value} {base : Heap} {CR CM CB : Addr}
theorem scBu : FnScope ["board", "numbers", "entries", "levers", "gates"] ["board", "numbers", "entries", "levers"] (defScope sBuild) := ⟨rfl, rfl, rfl, by decide +kernel, rfl, by decide +kernel, by decide +kernel⟩
theorem ok_build (D : Dn K mg "build" sBuild ["board", "numbers", "entries", "levers"]) (T : Txt K mg CR CM CB) (cS : Cal P w K mg base "split_gates" 1 ["numbers"] (spSplit K)) (cI : Cal P w K mg base "is_machine" 4 ["gates", "entries", "levers"] (spIsM K))
    (cM : CalI P w K mg base CM 2 ["self", "gates", "entries", "levers"] (spMInit CM)) : Cal P w K mg base "build" 5 ["board", "numbers", "entries", "levers"] (spBuild CB CM) := by
  refine D.ok scBu (fun vs H Q E h => ?_) (fun f cdv A outer s H vs Q E hr h => ?_)
  · obtain ⟨b, a, e, l, g, es, ls, S, rfl, _⟩ := h
    rfl
  · obtain ⟨b, a, e, l, g, es, ls, S, rfl, st, ha, he, hl, hask, o⟩ := h
    obtain ⟨g1, g2, g3, e1, e2, l1, l2⟩ := asked_build hask
    have hQ : Qs (quads g) := quads_qs g1
    have hql := quads_len g g2
    have hright : Klm.right ⟨KlmNeutral.gatesOf g, KlmNeutral.natsOf es, KlmNeutral.natsOf ls⟩ = machB (quads g) es ls := by
      rw [gatesOf_quads]
      exact right_is hQ (fun z hz => (e1 z hz).1) (fun z hz => (l1 z hz).1) e2 l2
    rw [step_build] at o
    refine ⟨_, pss_cons (ps_set (i := 4) scBu.nd rfl (Or.inl rfl) (pe_cal cS (hr.mono (by decide)) rfl (pa_cons (pv 1) pa_nil)))
      (pss_cons (ps_if (pt_not (pt_val (pe_cal cI hr rfl (pa_cons (pv 4) (pa_cons (pv 2) (pa_cons (pv 3) pa_nil)))))) (pss_one (ps_ret (pe_lst (pa_cons (pe_kc T.kNot rfl) pa_nil)))) pss_nil)
      (pss_cons (ps_fld (pv 0) (pe_calI cM (hr.mono (by decide)) rfl T.mgM (pa_cons (pv 4) (pa_cons (pv 2) (pa_cons (pv 3) pa_nil)))) rfl)
      (pss_one (ps_ret (pe_lst (pa_cons pe_int pa_nil)))))), ?_⟩
    refine ⟨_, rfl, a, g, rfl, SqL.of ha, g2, g3, fun H1 gl as s1 hgl0 hgl hQA => ?_⟩
    refine ⟨_, rfl, _, rfl, _, rfl, gl, e, l, as, quads g, es, ls, rfl, hgl, hQA, hQ, by omega, s1 _ _ he, by omega, s1 _ _ hl, by omega, fun H2 s2 => ⟨_, rfl, ite2 (fun h1 => ?_) (fun h1 => ?_)⟩⟩
    · have h1 : machB (quads g) es ls = false := by simpa using h1
      rw [hright, h1, if_neg Bool.false_ne_true] at o
      exact ⟨one_le, fun q hq => o.same st (s1.trans s2) hq rfl (by decide)⟩
    have h1 : machB (quads g) es ls = true := by simpa using h1
    have rt : Rt ⟨KlmNeutral.gatesOf g, KlmNeutral.natsOf es, KlmNeutral.natsOf ls⟩ := Rt.of (hright.trans h1)
    rw [hright, h1, if_pos rfl] at o
    rw [gatesOf_quads] at o rt
    have hn := rt.n
    have hn : ((quads g).map toGate).length ≤ 64 := hn
    rw [List.length_map] at hn
    have s12 : Same H H2 := s1.trans s2
    refine ⟨_, rfl, _, rfl, _, rfl, fun x dx nx nd nxd => ?_⟩
    have s3 : Same H2 (upd (upd H2 dx (.own x)) x (.ins CM dx [])) := fun b o e => by
      rw [upd_ne (ne_of_none e nx), upd_ne (ne_of_none e nd)]; exact e
    have he3 := s3 _ _ (s12 _ _ he)
    have hl3 := s3 _ _ (s12 _ _ hl)
    rw [ivs_nats (fun z hz => (e1 z hz).1)] at he3
    rw [ivs_nats (fun z hz => (l1 z hz).1)] at hl3
    refine ⟨x, dx, gl, e, l, as, quads g, KlmNeutral.natsOf es, KlmNeutral.natsOf ls, rfl, upd_same, s3 _ _ (s2 _ _ hgl), (hQA.same s2).same s3, hQ, hn, he3, hl3, fun H4 MA k4 => ⟨rfl, ?_⟩⟩
    have s4 : Same H2 H4 := Same.made nx nd k4
    obtain ⟨db, v, hb⟩ := st.ob
    have hb2 := s12 _ _ hb
    have hb4 := s4 _ _ hb2
    have hbx : b ≠ x := ne_of_none hb2 nx
    refine ⟨_, rfl, b, CB, db, _, rfl, hb4, T.clB, T.nMach, (by show 1 < 1000; decide), ?_⟩
    have fin : ∀ q, (upd H4 b (.ins CB db (bdF (.ref x)))) q = none → Q (.ref q) (upd (upd H4 b (.ins CB db (bdF (.ref x)))) q (.lst [V.int 0])) := fun q hq => by
      have k5 : But b H4 (upd H4 b (.ins CB db (bdF (.ref x)))) := But.upd _ _ _
      have sq : Same (upd H4 b (.ins CB db (bdF (.ref x)))) (upd (upd H4 b (.ins CB db (bdF (.ref x)))) q (.lst [V.int 0])) := Same.new hq
      obtain ⟨d0, lk, ls', lf, le, ll, ts, M4⟩ := MA
      have M5 : McAt CM (upd H4 b (.ins CB db (bdF (.ref x)))) x _ d0 lk ls' lf le ll ts := M4.move (Kl.but k5 hb4) (Sh.refl rt) (by rw [upd_ne hbx.symm]; exact M4.ob)
      refine o _ q ⟨rt, db, x, sq _ _ upd_same, ⟨d0, lk, ls', lf, le, ll, ts, M5.same sq⟩⟩ ?_ ?_ upd_same (by show 1 ≤ 18; decide)
      · exact (Kp.same (s12.trans s4)).trans ((Kp.but k5 hb4 bd_at).trans (Kp.same sq))
      · exact (s12.trans s4).free (k5.free upd_same hq)
    rw [← bd_put (v := v)] at fin
    exact ⟨one_le, fin⟩
end
end Mg
set_option Elab.async false
set_option linter.all false
set_option maxRecDepth 100000
set_option maxHeartbeats 2000000
/-! Marbles: a call is read and answered. -/
namespace Mg
open PySem PySem.Spec PyProof.Rows L2
abbrev sABuild : Stmt := top 47
abbrev sADrop : Stmt := top 48
abbrev sAMany : Stmt := top 49
abbrev sARun : Stmt := top 50
abbrev sABack : Stmt := top 51
abbrev sATilt : Stmt := top 52
abbrev sACall : Stmt := top 53
/-! ### the list from a place on -/
theorem drop_cons {ns : List Int} {k : Nat} {x : Int} {l : List Int} (h : ns.drop k = x :: l) : (ns.map V.int)[k]? = some (.int x) ∧ ns.drop (k + 1) = l ∧ k < ns.length := by
  have hk : k < ns.length := by
    by_cases z : k < ns.length
    · exact z
    · rw [List.drop_eq_nil_of_le (by omega)] at h
      cases h
  rw [List.drop_eq_getElem_cons hk] at h
  injection h with h1 h2
  refine ⟨?_, h2, hk⟩
  rw [List.getElem?_map, List.getElem?_eq_getElem hk, h1]
  rfl
theorem drop_app {ns : List Int} {k : Nat} {a t : List Int} (hk : k ≤ ns.length) (h : ns.drop k = a ++ t) : ((ns.map V.int).drop k).take a.length = a.map V.int ∧ ns.drop (k + a.length) = t ∧ k + a.length ≤ ns.length := by
  have hl := congrArg List.length h
  rw [List.length_drop, List.length_append] at hl
  refine ⟨?_, ?_, by omega⟩
  · rw [← List.map_drop, h, List.map_append, List.take_append_of_le_length (by rw [List.length_map]; exact Nat.le_refl _), List.take_of_length_le (by rw [List.length_map]; exact Nat.le_refl _)]
  · rw [← List.drop_drop, h, List.drop_append_of_le_length (Nat.le_refl _), List.drop_of_length_le (Nat.le_refl _)]
    rfl
/-- what a whole call leaves -/
def Fin (CB CM CR : Addr) (H : Hp) (b r a : Addr) (ns t : List Int) (res : KlmNeutral.S × List Int) (Q : VK) : Prop :=
  ∀ (H' : Hp) (q : Addr) (k : Nat), StAt CB CM H' b res.1 → RdAt CR H' r a k → ns.drop k = t → k ≤ ns.length → Kl H H' → H q = none → H' q = some (.lst (res.2.map V.int)) → res.2.length ≤ 18 → Q (.ref q) H'
section
variable {CB CM CR b r a : Addr} {H H1 : Hp} {ns t : List Int} {res : KlmNeutral.S × List Int} {Q : VK} {k0 k1 : Nat}
theorem Fin.out (f : Fin CB CM CR H b r a ns t res Q) (r0 : RdAt CR H r a k0) (k : But r H H1) (r1 : RdAt CR H1 r a k1) (hd : ns.drop k1 = t) (hk : k1 ≤ ns.length) : Out CB CM H1 b res Q := fun H' q st kp hq hx hl => by
  obtain ⟨d0, e0⟩ := r0
  obtain ⟨d1, e1⟩ := id r1
  exact f H' q k1 st (r1.kp kp) hd hk ((Kl.but k e0).trans (Kl.kp kp)) (k.free e1 hq) hx hl
theorem Fin.step (f : Fin CB CM CR H b r a ns t res Q) (r0 : RdAt CR H r a k0) (k : But r H H1) (r1 : RdAt CR H1 r a k1) : Fin CB CM CR H1 b r a ns t res Q := fun H' q k' st rd hd hk kl hq hx hl => by
  obtain ⟨d0, e0⟩ := r0
  obtain ⟨d1, e1⟩ := r1
  exact f H' q k' st rd hd hk ((Kl.but k e0).trans kl) (k.free e1 hq) hx hl
end
/-- an answer_* of one number, of two -/
def spA1 (K : PySem.W.Frag) (CB CM CR : Addr) (p : Int) : Sp := fun vs H Q _ => ∃ (b r a : Addr) (k e : Nat) (ns t : List Int) (m : Klm.Machine), vs = [.ref b, .ref r] ∧ StAt CB CM H b (some m) ∧ RdAt CR H r a k ∧ SqL K H a (ns.map V.int) ∧ ns.drop k = (e : Int) :: t ∧
  Fin CB CM CR H b r a ns t (KlmNeutral.step (some m) [[p, (e : Int)]]) Q
def spA2 (K : PySem.W.Frag) (CB CM CR : Addr) (p : Int) : Sp := fun vs H Q _ => ∃ (b r a : Addr) (k e c : Nat) (ns t : List Int) (m : Klm.Machine), vs = [.ref b, .ref r] ∧ StAt CB CM H b (some m) ∧ RdAt CR H r a k ∧ SqL K H a (ns.map V.int) ∧
  ns.drop k = (e : Int) :: (c : Int) :: t ∧ Fin CB CM CR H b r a ns t (KlmNeutral.step (some m) [[p, (e : Int), (c : Int)]]) Q
def spAB (K : PySem.W.Frag) (CB CM CR : Addr) : Sp := fun vs H Q _ => ∃ (b r a : Addr) (k : Nat) (ns t g es ls : List Int) (S : KlmNeutral.S), vs = [.ref b, .ref r] ∧ StAt CB CM H b S ∧ RdAt CR H r a k ∧ SqL K H a (ns.map V.int) ∧
  ns.drop k = (g.length : Int) :: (g ++ (es.length : Int) :: (es ++ (ls.length : Int) :: (ls ++ t))) ∧ KlmNeutral.asked1 [[0], g, es, ls] = true ∧ Fin CB CM CR H b r a ns t (KlmNeutral.step S [[0], g, es, ls]) Q
def spCall (K : PySem.W.Frag) (CB CM CR : Addr) : Sp := fun vs H Q _ => ∃ (b r a : Addr) (k : Nat) (ns t : List Int) (c : List (List Int)) (S : KlmNeutral.S), vs = [.ref b, .ref r] ∧ StAt CB CM H b S ∧ RdAt CR H r a k ∧ SqL K H a (ns.map V.int) ∧
  Stands (ns.drop k) c t ∧ KlmNeutral.asked1 c = true ∧ (KlmNeutral.step S c).2 ≠ [] ∧ Fin CB CM CR H b r a ns t (KlmNeutral.step S c) Q
section
variable {P : Program} {w : World} {K : PySem.W.Frag} {mg : Str → Option Value} {base : Heap} {CR CM CB : Addr}
theorem scAD : FnScope ["board", "reader", "entry"] ["board", "reader"] (defScope sADrop) := ⟨rfl, rfl, rfl, by decide +kernel, rfl, by decide +kernel, by decide +kernel⟩
theorem ok_adrop (D : Dn K mg "answer_drop" sADrop ["board", "reader"]) (T : Txt K mg CR CM CB) (cN : CalM P w K mg base CR "take_number" 1 ["self"] (spNum K CR)) (cC : Cal P w K mg base "drop" 2 ["board", "entry"] (spDrop CB CM)) :
    Cal P w K mg base "answer_drop" 6 ["board", "reader"] (spA1 K CB CM CR 1) := by
  refine D.ok scAD (fun vs H Q E h => ?_) (fun f cdv A outer s H vs Q E hr h => ?_)
  · obtain ⟨b, r, a, k, e, ns, t, m, rfl, _⟩ := h
    rfl
  · obtain ⟨b, r, a, k, e, ns, t, m, rfl, st, rd, hS, hd, fin⟩ := h
    obtain ⟨dr, er⟩ := id rd
    obtain ⟨x1, x2, x3⟩ := drop_cons hd
    refine ⟨_, pss_cons (ps_set (i := 2) scAD.nd rfl (Or.inl rfl) (pe_calM cN (pv 1) T.clR (hr.mono (by decide)))) (pss_one (ps_ret (pe_cal cC (hr.mono (by decide)) rfl (pa_cons (pv 0) (pa_cons (pv 2) pa_nil))))), ?_⟩
    refine ⟨_, rfl, r, dr, _, rfl, er, rfl, r, a, k, _, _, rfl, rd, hS, x1, fun H1 rd1 k1 => ?_⟩
    exact ⟨_, rfl, _, rfl, b, e, m, rfl, st.but rd k1, fin.out rd k1 rd1 x2 (by omega)⟩
theorem scAK : FnScope ["board", "reader", "entry"] ["board", "reader"] (defScope sABack) := ⟨rfl, rfl, rfl, by decide +kernel, rfl, by decide +kernel, by decide +kernel⟩
theorem ok_aback (D : Dn K mg "answer_back" sABack ["board", "reader"]) (T : Txt K mg CR CM CB) (cN : CalM P w K mg base CR "take_number" 1 ["self"] (spNum K CR)) (cC : Cal P w K mg base "back" 5 ["board", "entry"] (spBack CB CM)) :
    Cal P w K mg base "answer_back" 6 ["board", "reader"] (spA1 K CB CM CR 4) := by
  refine D.ok scAK (fun vs H Q E h => ?_) (fun f cdv A outer s H vs Q E hr h => ?_)
  · obtain ⟨b, r, a, k, e, ns, t, m, rfl, _⟩ := h
    rfl
  · obtain ⟨b, r, a, k, e, ns, t, m, rfl, st, rd, hS, hd, fin⟩ := h
    obtain ⟨dr, er⟩ := id rd
    obtain ⟨x1, x2, x3⟩ := drop_cons hd
    refine ⟨_, pss_cons (ps_set (i := 2) scAK.nd rfl (Or.inl rfl) (pe_calM cN (pv 1) T.clR (hr.mono (by decide)))) (pss_one (ps_ret (pe_cal cC (hr.mono (by decide)) rfl (pa_cons (pv 0) (pa_cons (pv 2) pa_nil))))), ?_⟩
    refine ⟨_, rfl, r, dr, _, rfl, er, rfl, r, a, k, _, _, rfl, rd, hS, x1, fun H1 rd1 k1 => ?_⟩
    exact ⟨_, rfl, _, rfl, b, e, m, rfl, st.but rd k1, fin.out rd k1 rd1 x2 (by omega)⟩
theorem scAM : FnScope ["board", "reader", "entry", "count"] ["board", "reader"] (defScope sAMany) := ⟨rfl, rfl, rfl, by decide +kernel, rfl, by decide +kernel, by decide +kernel⟩
theorem ok_amany (D : Dn K mg "answer_many" sAMany ["board", "reader"]) (T : Txt K mg CR CM CB) (cN : CalM P w K mg base CR "take_number" 1 ["self"] (spNum K CR)) (cC : Cal P w K mg base "many" 5 ["board", "entry", "count"] (spMany CB CM)) :
    Cal P w K mg base "answer_many" 6 ["board", "reader"] (spA2 K CB CM CR 2) := by
  refine D.ok scAM (fun vs H Q E h => ?_) (fun f cdv A outer s H vs Q E hr h => ?_)
  · obtain ⟨b, r, a, k, e, c, ns, t, m, rfl, _⟩ := h
    rfl
  · obtain ⟨b, r, a, k, e, c, ns, t, m, rfl, st, rd, hS, hd, fin⟩ := h
    obtain ⟨dr, er⟩ := id rd
    obtain ⟨x1, x2, x3⟩ := drop_cons hd
    obtain ⟨y1, y2, y3⟩ := drop_cons x2
    refine ⟨_, pss_cons (ps_set (i := 2) scAM.nd rfl (Or.inl rfl) (pe_calM cN (pv 1) T.clR (hr.mono (by decide)))) (pss_cons (ps_set (i := 3) scAM.nd rfl (Or.inl rfl) (pe_calM cN (pv 1) T.clR (hr.mono (by decide))))
      (pss_one (ps_ret (pe_cal cC (hr.mono (by decide)) rfl (pa_cons (pv 0) (pa_cons (pv 2) (pa_cons (pv 3) pa_nil))))))), ?_⟩
    refine ⟨_, rfl, r, dr, _, rfl, er, rfl, r, a, k, _, _, rfl, rd, hS, x1, fun H1 rd1 k1 => ?_⟩
    obtain ⟨d1, e1⟩ := id rd1
    refine ⟨_, rfl, r, d1, _, rfl, e1, rfl, r, a, k + 1, _, _, rfl, rd1, k1.seq er hS, y1, fun H2 rd2 k2 => ?_⟩
    have st1 : StAt CB CM H1 b (some m) := st.but rd k1
    exact ⟨_, rfl, _, rfl, _, rfl, b, e, c, m, rfl, st1.but rd1 k2, fin.out rd (k1.trans k2) rd2 y2 (by omega)⟩
theorem scAR : FnScope ["board", "reader", "entry", "most"] ["board", "reader"] (defScope sARun) := ⟨rfl, rfl, rfl, by decide +kernel, rfl, by decide +kernel, by decide +kernel⟩
theorem ok_arun (D : Dn K mg "answer_run" sARun ["board", "reader"]) (T : Txt K mg CR CM CB) (cN : CalM P w K mg base CR "take_number" 1 ["self"] (spNum K CR)) (cC : Cal P w K mg base "run" 2 ["board", "entry", "most"] (spRun CB CM)) :
    Cal P w K mg base "answer_run" 6 ["board", "reader"] (spA2 K CB CM CR 3) := by
  refine D.ok scAR (fun vs H Q E h => ?_) (fun f cdv A outer s H vs Q E hr h => ?_)
  · obtain ⟨b, r, a, k, e, c, ns, t, m, rfl, _⟩ := h
    rfl
  · obtain ⟨b, r, a, k, e, c, ns, t, m, rfl, st, rd, hS, hd, fin⟩ := h
    obtain ⟨dr, er⟩ := id rd
    obtain ⟨x1, x2, x3⟩ := drop_cons hd
    obtain ⟨y1, y2, y3⟩ := drop_cons x2
    refine ⟨_, pss_cons (ps_set (i := 2) scAR.nd rfl (Or.inl rfl) (pe_calM cN (pv 1) T.clR (hr.mono (by decide)))) (pss_cons (ps_set (i := 3) scAR.nd rfl (Or.inl rfl) (pe_calM cN (pv 1) T.clR (hr.mono (by decide))))
      (pss_one (ps_ret (pe_cal cC (hr.mono (by decide)) rfl (pa_cons (pv 0) (pa_cons (pv 2) (pa_cons (pv 3) pa_nil))))))), ?_⟩
    refine ⟨_, rfl, r, dr, _, rfl, er, rfl, r, a, k, _, _, rfl, rd, hS, x1, fun H1 rd1 k1 => ?_⟩
    obtain ⟨d1, e1⟩ := id rd1
    refine ⟨_, rfl, r, d1, _, rfl, e1, rfl, r, a, k + 1, _, _, rfl, rd1, k1.seq er hS, y1, fun H2 rd2 k2 => ?_⟩
    have st1 : StAt CB CM H1 b (some m) := st.but rd k1
    exact ⟨_, rfl, _, rfl, _, rfl, b, e, c, m, rfl, st1.but rd1 k2, fin.out rd (k1.trans k2) rd2 y2 (by omega)⟩
theorem scAT : FnScope ["board", "reader", "number", "side"] ["board", "reader"] (defScope sATilt) := ⟨rfl, rfl, rfl, by decide +kernel, rfl, by decide +kernel, by decide +kernel⟩
theorem ok_atilt (D : Dn K mg "answer_tilt" sATilt ["board", "reader"]) (T : Txt K mg CR CM CB) (cN : CalM P w K mg base CR "take_number" 1 ["self"] (spNum K CR)) (cC : Cal P w K mg base "tilt" 2 ["board", "number", "side"] (spTilt CB CM)) :
    Cal P w K mg base "answer_tilt" 6 ["board", "reader"] (spA2 K CB CM CR 5) := by
  refine D.ok scAT (fun vs H Q E h => ?_) (fun f cdv A outer s H vs Q E hr h => ?_)
  · obtain ⟨b, r, a, k, e, c, ns, t, m, rfl, _⟩ := h
    rfl
  · obtain ⟨b, r, a, k, e, c, ns, t, m, rfl, st, rd, hS, hd, fin⟩ := h
    obtain ⟨dr, er⟩ := id rd
    obtain ⟨x1, x2, x3⟩ := drop_cons hd
    obtain ⟨y1, y2, y3⟩ := drop_cons x2
    refine ⟨_, pss_cons (ps_set (i := 2) scAT.nd rfl (Or.inl rfl) (pe_calM cN (pv 1) T.clR (hr.mono (by decide)))) (pss_cons (ps_set (i := 3) scAT.nd rfl (Or.inl rfl) (pe_calM cN (pv 1) T.clR (hr.mono (by decide))))
      (pss_one (ps_ret (pe_cal cC (hr.mono (by decide)) rfl (pa_cons (pv 0) (pa_cons (pv 2) (pa_cons (pv 3) pa_nil))))))), ?_⟩
    refine ⟨_, rfl, r, dr, _, rfl, er, rfl, r, a, k, _, _, rfl, rd, hS, x1, fun H1 rd1 k1 => ?_⟩
    obtain ⟨d1, e1⟩ := id rd1
    refine ⟨_, rfl, r, d1, _, rfl, e1, rfl, r, a, k + 1, _, _, rfl, rd1, k1.seq er hS, y1, fun H2 rd2 k2 => ?_⟩
    have st1 : StAt CB CM H1 b (some m) := st.but rd k1
    exact ⟨_, rfl, _, rfl, _, rfl, b, e, c, m, rfl, st1.but rd1 k2, fin.out rd (k1.trans k2) rd2 y2 (by omega)⟩
theorem scAB : FnScope ["board", "reader", "gates", "entries", "levers"] ["board", "reader"] (defScope sABuild) := ⟨rfl, rfl, rfl, by decide +kernel, rfl, by decide +kernel, by decide +kernel⟩
theorem ok_abuild (D : Dn K mg "answer_build" sABuild ["board", "reader"]) (T : Txt K mg CR CM CB) (cR : CalM P w K mg base CR "take_row" 2 ["self"] (spRow K CR)) (cC : Cal P w K mg base "build" 5 ["board", "numbers", "entries", "levers"] (spBuild CB CM)) :
    Cal P w K mg base "answer_build" 6 ["board", "reader"] (spAB K CB CM CR) := by
  refine D.ok scAB (fun vs H Q E h => ?_) (fun f cdv A outer s H vs Q E hr h => ?_)
  · obtain ⟨b, r, a, k, ns, t, g, es, ls, S, rfl, _⟩ := h
    rfl
  · obtain ⟨b, r, a, k, ns, t, g, es, ls, S, rfl, st, rd, hS, hd, hask, fin⟩ := h
    obtain ⟨dr, er⟩ := id rd
    obtain ⟨x1, x2, x3⟩ := drop_cons hd
    obtain ⟨g1, g2, g3⟩ := drop_app (by omega) x2
    obtain ⟨y1, y2, y3⟩ := drop_cons g2
    obtain ⟨e1, e2, e3⟩ := drop_app (by omega) y2
    obtain ⟨z1, z2, z3⟩ := drop_cons e2
    obtain ⟨l1, l2, l3⟩ := drop_app (by omega) z2
    refine ⟨_, pss_cons (ps_set (i := 2) scAB.nd rfl (Or.inl rfl) (pe_calM cR (pv 1) T.clR (hr.mono (by decide)))) (pss_cons (ps_set (i := 3) scAB.nd rfl (Or.inl rfl) (pe_calM cR (pv 1) T.clR (hr.mono (by decide))))
      (pss_cons (ps_set (i := 4) scAB.nd rfl (Or.inl rfl) (pe_calM cR (pv 1) T.clR (hr.mono (by decide))))
      (pss_one (ps_ret (pe_cal cC hr rfl (pa_cons (pv 0) (pa_cons (pv 2) (pa_cons (pv 3) (pa_cons (pv 4) pa_nil))))))))), ?_⟩
    refine ⟨_, rfl, r, dr, _, rfl, er, rfl, r, a, k, g.length, _, rfl, rd, hS, x1, by rw [List.length_map]; omega, fun H1 p1 rd1 k1 n1 q1 => ?_⟩
    obtain ⟨d1, er1⟩ := id rd1
    rw [g1] at q1
    have st1 : StAt CB CM H1 b S := st.but rd k1
    refine ⟨_, rfl, r, d1, _, rfl, er1, rfl, r, a, k + 1 + g.length, es.length, _, rfl, rd1, k1.seq er hS, y1, by rw [List.length_map]; omega, fun H2 p2 rd2 k2 n2 q2 => ?_⟩
    obtain ⟨d2, er2⟩ := id rd2
    rw [e1] at q2
    have st2 : StAt CB CM H2 b S := st1.but rd1 k2
    refine ⟨_, rfl, r, d2, _, rfl, er2, rfl, r, a, k + 1 + g.length + 1 + es.length, ls.length, _, rfl, rd2, k2.seq er1 (k1.seq er hS), z1, by rw [List.length_map]; omega, fun H3 p3 rd3 k3 n3 q3 => ?_⟩
    rw [l1] at q3
    have st3 : StAt CB CM H3 b S := st2.but rd2 k3
    exact ⟨_, rfl, _, rfl, _, rfl, _, rfl, b, p1, p2, p3, g, es, ls, S, rfl, st3, (Kl.but k3 er2).lst ((Kl.but k2 er1).lst q1), (Kl.but k3 er2).lst q2, q3, hask, fin.out rd ((k1.trans k2).trans k3) rd3 l2 (by omega)⟩
/-! ### one call -/
theorem ifN {i j : Int} {A B : Prop} (h : i ≠ j) (b : B) : if decide (V.int i = V.int j) = true then A else B := by
  rw [decide_eq_false (fun z => h (by injection z)), if_neg Bool.false_ne_true]
  exact b
theorem ifY {i : Int} {A B : Prop} (a : A) : if decide (V.int i = V.int i) = true then A else B := by
  rw [decide_eq_true rfl, if_pos rfl]
  exact a
theorem nat_of {z : Int} (h : 0 ≤ z) : ∃ n : Nat, z = (n : Int) := ⟨z.toNat, by omega⟩
theorem some_of {S : KlmNeutral.S} {c : List (List Int)} (h : (KlmNeutral.step S c).2 ≠ []) (hc : ∀ g e v, c ≠ [[0], g, e, v]) : ∃ m, S = some m := by
  cases S with
  | none =>
    obtain ⟨g, e, v, z⟩ := step_none h
    exact absurd z (hc g e v)
  | some m => exact ⟨m, rfl⟩
theorem scAC : FnScope ["board", "reader", "call"] ["board", "reader"] (defScope sACall) := ⟨rfl, rfl, rfl, by decide +kernel, rfl, by decide +kernel, by decide +kernel⟩
theorem ok_acall (D : Dn K mg "answer_call" sACall ["board", "reader"]) (T : Txt K mg CR CM CB) (cN : CalM P w K mg base CR "take_number" 1 ["self"] (spNum K CR))
    (c0 : Cal P w K mg base "answer_build" 6 ["board", "reader"] (spAB K CB CM CR)) (c1 : Cal P w K mg base "answer_drop" 6 ["board", "reader"] (spA1 K CB CM CR 1)) (c2 : Cal P w K mg base "answer_many" 6 ["board", "reader"] (spA2 K CB CM CR 2))
    (c3 : Cal P w K mg base "answer_run" 6 ["board", "reader"] (spA2 K CB CM CR 3)) (c4 : Cal P w K mg base "answer_back" 6 ["board", "reader"] (spA1 K CB CM CR 4)) (c5 : Cal P w K mg base "answer_tilt" 6 ["board", "reader"] (spA2 K CB CM CR 5))
    (c6 : Cal P w K mg base "state" 1 ["board"] (spState CB CM)) : Cal P w K mg base "answer_call" 7 ["board", "reader"] (spCall K CB CM CR) := by
  refine D.ok scAC (fun vs H Q E h => ?_) (fun f cdv A outer s H vs Q E hr h => ?_)
  · obtain ⟨b, r, a, k, ns, t, c, S, rfl, _⟩ := h
    rfl
  · obtain ⟨b, r, a, k, ns, t, c, S, rfl, st, rd, hS, hst, hask, hne, fin⟩ := h
    obtain ⟨dr, er⟩ := id rd
    refine ⟨_, pss_cons (ps_set (i := 2) scAC.nd rfl (Or.inl rfl) (pe_calM cN (pv 1) T.clR (hr.mono (by decide))))
      (pss_cons (ps_if (pt_cmpR op_eq (pv 2) (pe_kc T.kBuild rfl) (nomark _)) (pss_one (ps_ret (pe_cal c0 hr rfl (pa_cons (pv 0) (pa_cons (pv 1) pa_nil))))) pss_nil)
      (pss_cons (ps_if (pt_cmpR op_eq (pv 2) (pe_kc T.kDrop rfl) (nomark _)) (pss_one (ps_ret (pe_cal c1 hr rfl (pa_cons (pv 0) (pa_cons (pv 1) pa_nil))))) pss_nil)
      (pss_cons (ps_if (pt_cmpR op_eq (pv 2) (pe_kc T.kMany rfl) (nomark _)) (pss_one (ps_ret (pe_cal c2 hr rfl (pa_cons (pv 0) (pa_cons (pv 1) pa_nil))))) pss_nil)
      (pss_cons (ps_if (pt_cmpR op_eq (pv 2) (pe_kc T.kRun rfl) (nomark _)) (pss_one (ps_ret (pe_cal c3 hr rfl (pa_cons (pv 0) (pa_cons (pv 1) pa_nil))))) pss_nil)
      (pss_cons (ps_if (pt_cmpR op_eq (pv 2) (pe_kc T.kBack rfl) (nomark _)) (pss_one (ps_ret (pe_cal c4 hr rfl (pa_cons (pv 0) (pa_cons (pv 1) pa_nil))))) pss_nil)
      (pss_cons (ps_if (pt_cmpR op_eq (pv 2) (pe_kc T.kTilt rfl) (nomark _)) (pss_one (ps_ret (pe_cal c5 hr rfl (pa_cons (pv 0) (pa_cons (pv 1) pa_nil))))) pss_nil)
      (pss_cons (ps_if (pt_cmpR op_eq (pv 2) (pe_kc T.kState rfl) (nomark _)) (pss_one (ps_ret (pe_cal c6 (hr.mono (by decide)) rfl (pa_cons (pv 0) pa_nil)))) pss_nil)
      (pss_one ps_never)))))))), ?_⟩
    generalize hd : ns.drop k = l at hst
    have nb : ∀ {p : Int} {e : List Int} {r : List (List Int)}, p ≠ 0 → ∀ g e' v, ((p :: e) :: r) ≠ [[0], g, e', v] := fun hp g e' v z => by
      injection z with z _
      injection z with z _
      exact hp z
    cases hst with
    | build g es ls t =>
      obtain ⟨x1, x2, x3⟩ := drop_cons hd
      refine ⟨_, rfl, r, dr, _, rfl, er, rfl, r, a, k, _, _, rfl, rd, hS, x1, fun H1 rd1 k1 => ?_⟩
      refine ⟨_, rfl, rfl, _, rfl, ifY ?_⟩
      exact ⟨_, rfl, _, rfl, b, r, a, k + 1, ns, t, g, es, ls, S, rfl, st.but rd k1, rd1, k1.seq er hS, x2, hask, fin.step rd k1 rd1⟩
    | drop e t =>
      obtain ⟨m, rfl⟩ := some_of hne (nb (by decide))
      obtain ⟨e, rfl⟩ := nat_of (asked_one (.inl rfl) hask).1
      obtain ⟨x1, x2, x3⟩ := drop_cons hd
      refine ⟨_, rfl, r, dr, _, rfl, er, rfl, r, a, k, _, _, rfl, rd, hS, x1, fun H1 rd1 k1 => ?_⟩
      refine ⟨_, rfl, rfl, _, rfl, ifN (by decide) ?_⟩
      refine ⟨_, rfl, rfl, _, rfl, ifY ?_⟩
      exact ⟨_, rfl, _, rfl, b, r, a, k + 1, e, ns, t, m, rfl, st.but rd k1, rd1, k1.seq er hS, x2, fin.step rd k1 rd1⟩
    | many e c t =>
      obtain ⟨m, rfl⟩ := some_of hne (nb (by decide))
      obtain ⟨h1, h2⟩ := asked_many hask
      obtain ⟨e, rfl⟩ := nat_of h1.1
      obtain ⟨c, rfl⟩ := nat_of h2.1
      obtain ⟨x1, x2, x3⟩ := drop_cons hd
      refine ⟨_, rfl, r, dr, _, rfl, er, rfl, r, a, k, _, _, rfl, rd, hS, x1, fun H1 rd1 k1 => ?_⟩
      refine ⟨_, rfl, rfl, _, rfl, ifN (by decide) ?_⟩
      refine ⟨_, rfl, rfl, _, rfl, ifN (by decide) ?_⟩
      refine ⟨_, rfl, rfl, _, rfl, ifY ?_⟩
      exact ⟨_, rfl, _, rfl, b, r, a, k + 1, e, c, ns, t, m, rfl, st.but rd k1, rd1, k1.seq er hS, x2, fin.step rd k1 rd1⟩
    | run e c t =>
      obtain ⟨m, rfl⟩ := some_of hne (nb (by decide))
      obtain ⟨h1, h2⟩ := asked_two (.inl rfl) hask
      obtain ⟨e, rfl⟩ := nat_of h1.1
      obtain ⟨c, rfl⟩ := nat_of h2.1
      obtain ⟨x1, x2, x3⟩ := drop_cons hd
      refine ⟨_, rfl, r, dr, _, rfl, er, rfl, r, a, k, _, _, rfl, rd, hS, x1, fun H1 rd1 k1 => ?_⟩
      refine ⟨_, rfl, rfl, _, rfl, ifN (by decide) ?_⟩
      refine ⟨_, rfl, rfl, _, rfl, ifN (by decide) ?_⟩
      refine ⟨_, rfl, rfl, _, rfl, ifN (by decide) ?_⟩
      refine ⟨_, rfl, rfl, _, rfl, ifY ?_⟩
      exact ⟨_, rfl, _, rfl, b, r, a, k + 1, e, c, ns, t, m, rfl, st.but rd k1, rd1, k1.seq er hS, x2, fin.step rd k1 rd1⟩
    | back e t =>
      obtain ⟨m, rfl⟩ := some_of hne (nb (by decide))
      obtain ⟨e, rfl⟩ := nat_of (asked_one (.inr rfl) hask).1
      obtain ⟨x1, x2, x3⟩ := drop_cons hd
      refine ⟨_, rfl, r, dr, _, rfl, er, rfl, r, a, k, _, _, rfl, rd, hS, x1, fun H1 rd1 k1 => ?_⟩
      refine ⟨_, rfl, rfl, _, rfl, ifN (by decide) ?_⟩
      refine ⟨_, rfl, rfl, _, rfl, ifN (by decide) ?_⟩
      refine ⟨_, rfl, rfl, _, rfl, ifN (by decide) ?_⟩
      refine ⟨_, rfl, rfl, _, rfl, ifN (by decide) ?_⟩
      refine ⟨_, rfl, rfl, _, rfl, ifY ?_⟩
      exact ⟨_, rfl, _, rfl, b, r, a, k + 1, e, ns, t, m, rfl, st.but rd k1, rd1, k1.seq er hS, x2, fin.step rd k1 rd1⟩
    | tilt e c t =>
      obtain ⟨m, rfl⟩ := some_of hne (nb (by decide))
      obtain ⟨h1, h2⟩ := asked_two (.inr rfl) hask
      obtain ⟨e, rfl⟩ := nat_of h1.1
      obtain ⟨c, rfl⟩ := nat_of h2.1
      obtain ⟨x1, x2, x3⟩ := drop_cons hd
      refine ⟨_, rfl, r, dr, _, rfl, er, rfl, r, a, k, _, _, rfl, rd, hS, x1, fun H1 rd1 k1 => ?_⟩
      refine ⟨_, rfl, rfl, _, rfl, ifN (by decide) ?_⟩
      refine ⟨_, rfl, rfl, _, rfl, ifN (by decide) ?_⟩
      refine ⟨_, rfl, rfl, _, rfl, ifN (by decide) ?_⟩
      refine ⟨_, rfl, rfl, _, rfl, ifN (by decide) ?_⟩
      refine ⟨_, rfl, rfl, _, rfl, ifN (by decide) ?_⟩
      refine ⟨_, rfl, rfl, _, rfl, ifY ?_⟩
      exact ⟨_, rfl, _, rfl, b, r, a, k + 1, e, c, ns, t, m, rfl, st.but rd k1, rd1, k1.seq er hS, x2, fin.step rd k1 rd1⟩
    | state t =>
      obtain ⟨m, rfl⟩ := some_of hne (nb (by decide))
      obtain ⟨x1, x2, x3⟩ := drop_cons hd
      refine ⟨_, rfl, r, dr, _, rfl, er, rfl, r, a, k, _, _, rfl, rd, hS, x1, fun H1 rd1 k1 => ?_⟩
      refine ⟨_, rfl, rfl, _, rfl, ifN (by decide) ?_⟩
      refine ⟨_, rfl, rfl, _, rfl, ifN (by decide) ?_⟩
      refine ⟨_, rfl, rfl, _, rfl, ifN (by decide) ?_⟩
      refine ⟨_, rfl, rfl, _, rfl, ifN (by decide) ?_⟩
      refine ⟨_, rfl, rfl, _, rfl, ifN (by decide) ?_⟩
      refine ⟨_, rfl, rfl, _, rfl, ifN (by decide) ?_⟩
      refine ⟨_, rfl, rfl, _, rfl, ifY ?_⟩
      exact ⟨_, rfl, b, m, rfl, st.but rd k1, fin.out rd k1 rd1 x2 (by omega)⟩
end
end Mg
set_option Elab.async false
set_option linter.all false
set_option maxRecDepth 100000
set_option maxHeartbeats 2000000
/-! Marbles: the whole list of calls; what the top has written. -/
namespace Mg
open PySem PySem.Spec PyProof.Rows L2
abbrev sAns : Stmt := top 54
/-- what stands beside a frozen thing -/
theorem StAt.offF {CB CM : Addr} {H H' : Hp} {b an : Addr} {od : Obj} {u : HO} {S : KlmNeutral.S} (h : StAt CB CM H b S) (hf : H an = some (.frz od u)) (kp : ∀ c o, H c = some o → c ≠ an → H' c = some o) : StAt CB CM H' b S := by
  have ne : ∀ c o, H c = some o → (∀ od u, o ≠ .frz od u) → H' c = some o := fun c o e n => kp c o e fun z => by
    rw [z, hf] at e
    cases e
    exact n _ _ rfl
  cases S with
  | none =>
    obtain ⟨dx, e⟩ := h
    exact ⟨dx, ne _ _ e (fun _ _ z => nomatch z)⟩
  | some m =>
    obtain ⟨rt, dx, p, e, d2, lk, ls, lf, le, ll, ts, M⟩ := h
    exact ⟨rt, dx, p, ne _ _ e (fun _ _ z => nomatch z), d2, lk, ls, lf, le, ll, ts, ne _ _ M.ob (fun _ _ z => nomatch z), ne _ _ M.kinds (fun _ _ z => nomatch z), ne _ _ M.sides (fun _ _ z => nomatch z), M.tl,
      fun i t g e1 e2 => ne _ _ (M.tup i t g e1 e2) (fun _ _ z => nomatch z), ne _ _ M.flips (fun _ _ z => nomatch z), ne _ _ M.entries (fun _ _ z => nomatch z), ne _ _ M.levers (fun _ _ z => nomatch z)⟩
/-- answers: a list of ints is handed in, the specification's list comes out -/
def spAns (K : PySem.W.Frag) : Sp := fun vs H Q _ => ∃ (a : Addr) (ns : List Int), vs = [.ref a] ∧ SqL K H a (ns.map V.int) ∧ PyKlm.answers_asked ns = true ∧ ∀ (H' : Hp) (p : Addr), H' p = some (.lst ((PyKlm.answers ns).map V.int)) → Q (.ref p) H'
section
variable {P : Program} {w : World} {K : PySem.W.Frag} {mg : Str → Option Value} {base : Heap} {CR CM CB : Addr}
theorem scAn : FnScope ["calls", "reader", "board", "answered", "answer"] ["calls"] (defScope sAns) := ⟨rfl, rfl, rfl, by decide +kernel, rfl, by decide +kernel, by decide +kernel⟩
theorem ok_answers {f : Addr} {fd : FuncData} (F : Fun K "answers" "answers" sAns f fd) (T : Txt K mg CR CM CB) (cR : CalI P w K mg base CR 1 ["self", "calls"] (spRInit CR)) (cB : CalI P w K mg base CB 1 ["self"] (spBInit CB))
    (cM : CalM P w K mg base CR "has_more" 1 ["self"] (spMore K CR)) (cC : Cal P w K mg base "answer_call" 7 ["board", "reader"] (spCall K CB CM CR)) : FnOk P w K mg base CX0 8 f fd ["calls"] (spAns K) := by
  refine F.ok scAn (fun vs H Q E h => ?_) (fun cdv A outer s H vs Q E hr h => ?_)
  · obtain ⟨a, ns, rfl, _⟩ := h
    rfl
  · obtain ⟨a, ns, rfl, hS, hask, kQ⟩ := h
    obtain ⟨cs0, due0, hcs, hans⟩ := due_of hask
    refine ⟨_, pss_cons (ps_set (i := 1) scAn.nd rfl (Or.inl rfl) (pe_calI cR (hr.mono (by decide)) rfl T.mgR (pa_cons (pv 0) pa_nil)))
      (pss_cons (ps_set (i := 2) scAn.nd rfl (Or.inl rfl) (pe_calI0 cB (hr.mono (by decide)) rfl T.mgB))
      (pss_cons (ps_set (i := 3) scAn.nd rfl (Or.inl rfl) (pe_lst pa_nil))
      (pss_cons (ps_while PassesOwn.never (pt_val (pe_calM cM (pv 1) T.clR (hr.mono (by decide))))
        (pss_cons (ps_set (i := 4) scAn.nd rfl (Or.inl rfl) (pe_lock (pe_cal cC hr rfl (pa_cons (pv 2) (pa_cons (pv 1) pa_nil)))))
        (pss_cons (ps_expr (pe_bm PySem.F.plainAttrs_list PySem.F.slot_list_append PySem.F.type_list_append mt_append (pv 3) (pa_cons (pe_callB call_len_seq (by rfl) T.len PySem.boot_len (pa_cons (pv 4) pa_nil)) pa_nil)))
        (pss_one (ps_expr (pe_bm PySem.F.plainAttrs_list PySem.F.slot_list_extend PySem.F.type_list_extend mt_extend (pv 3) (pa_cons (pv 4) pa_nil)))))))
      (pss_one (ps_ret (pv 3)))))), ?_⟩
    refine ⟨_, rfl, fun x dx nx nd nxd => ⟨x, dx, a, rfl, upd_same, fun H1 rd1 k1 => ⟨rfl, ?_⟩⟩⟩
    have s1 : Same H H1 := Same.made nx nd k1
    refine fun y dy ny nyd nyy => ⟨y, dy, rfl, upd_same, fun H2 hb2 k2 => ⟨rfl, ?_⟩⟩
    obtain ⟨db, hb2⟩ := hb2
    have s2 : Same H1 H2 := Same.made ny nyd k2
    refine ⟨Nat.zero_le _, fun an han => ?_⟩
    have s12 : Same H H2 := s1.trans s2
    have hanH : H an = none := s12.free han
    have s3 : Same H2 (upd H2 an (.lst [])) := Same.new han
    obtain ⟨dr0, er0⟩ := rd1
    refine ⟨fun j σ H' => ∃ (S : KlmNeutral.S) (k : Nat) (cs : List (List (List Int))) (done : List Int) (av : Option V), σ = [some (.ref a), some (.ref x), some (.ref y), some (.ref an), av] ∧ Due S (ns.drop k) cs ∧ k ≤ ns.length ∧
      (∀ od u, StAt CB CM (upd H' an (.frz od u)) y S) ∧ RdAt CR H' x a k ∧ Kl H H' ∧ H' an = some (.lst (done.map V.int)) ∧ PyKlm.answers ns = done ++ PyFlat.told (PyFlat.played KlmNeutral.step S cs) ∧ done.length + 19 * cs.length ≤ 76000 ∧ j = ns.length - k,
      ⟨_, KlmNeutral.start, 0, cs0, [], none, rfl, by rw [List.drop_zero]; exact due0, Nat.zero_le _, fun od u => ⟨db, by rw [upd_ne (ne_of_none hb2 han), upd_ne (ne_of_none hb2 han)]; exact hb2⟩, ⟨dr0, s3 _ _ (s2 _ _ er0)⟩, Kl.same (s12.trans s3), upd_same, hans, by rw [List.length_nil]; omega, rfl⟩, ?_⟩
    rintro j σ H' ⟨S, k, cs, done, av, rfl, due, hk, st, rd, kl, han', hans', hlen, rfl⟩
    obtain ⟨dr, er⟩ := id rd
    refine ⟨_, rfl, x, dr, _, rfl, er, rfl, x, a, k, _, rfl, rd, kl.seq hS, _, rfl, ite2 (fun h1 => ?_) (fun h1 => ?_)⟩
    rotate_left
    · have h1 : ¬ (k : Int) < (((ns.map V.int).length : Nat) : Int) := fun z => h1 (decide_eq_true z)
      rw [List.length_map] at h1
      rw [List.drop_eq_nil_of_le (by omega)] at due
      have e := due.nil
      subst e
      refine ⟨_, rfl, kQ H' an ?_⟩
      rw [hans', han']
      show _ = some (HO.lst ((done ++ []).map V.int))
      rw [List.append_nil]
    have h1 : (k : Int) < (((ns.map V.int).length : Nat) : Int) := of_decide_eq_true h1
    rw [List.length_map] at h1
    have hlt : k < ns.length := by omega
    have hd := List.drop_eq_getElem_cons hlt
    rw [hd] at due
    obtain ⟨c, ds, t, rfl, hst, hask1, hne, due2⟩ := due.cons
    rw [← hd] at hst
    have hlt2 := hst.len
    rw [List.length_drop] at hlt2
    refine ⟨fun σ' H2 => ∃ j', j' < ns.length - k ∧ ∃ (S : KlmNeutral.S) (k : Nat) (cs : List (List (List Int))) (done : List Int) (av : Option V), σ' = [some (.ref a), some (.ref x), some (.ref y), some (.ref an), av] ∧ Due S (ns.drop k) cs ∧ k ≤ ns.length ∧
      (∀ od u, StAt CB CM (upd H2 an (.frz od u)) y S) ∧ RdAt CR H2 x a k ∧ Kl H H2 ∧ H2 an = some (.lst (done.map V.int)) ∧ PyKlm.answers ns = done ++ PyFlat.told (PyFlat.played KlmNeutral.step S cs) ∧ done.length + 19 * cs.length ≤ 76000 ∧ j' = ns.length - k, fun _ _ h => h, ?_⟩
    have hxan : x ≠ an := ne_of er han' (by intro z; cases z)
    refine ⟨an, _, han', trivial, fun od => ?_⟩
    have klL : Kl H (upd H' an (.frz od (.lst (done.map V.int)))) := fun b o e n => by rw [upd_ne (ne_of_none e hanH)]; exact kl b o e n
    refine ⟨_, rfl, _, rfl, y, x, a, k, ns, t, c, S, rfl, st od _, ⟨dr, by rw [upd_ne hxan]; exact er⟩, klL.seq hS, hst, hask1, hne, fun H2 q k2 st2 rd2 hd2 hk2 kl2 hq hx hl => ?_⟩
    have hfz : H2 an = some (.frz od (.lst (done.map V.int))) := kl2 _ _ upd_same fun z => z
    have hqan : q ≠ an := fun z => by rw [z, upd_same] at hq; cases hq
    have hsl : sizeLine = 16777216 := sizeLine_eq
    rw [List.length_cons] at hlen
    refine ⟨hfz, ?_⟩
    refine ⟨_, rfl, .inl ⟨rfl, _, SqL.of upd_same⟩, _, rfl, q, _, rfl, .inl (SqL.of (by rw [upd_ne hqan]; exact hx)), an, _, _, rfl, rfl, upd_same, by rw [List.length_map]; omega, ?_⟩
    refine ⟨_, rfl, .inl ⟨rfl, _, SqL.of upd_same⟩, _, rfl, an, q, _, _, rfl, rfl, upd_same, by rw [upd_ne hqan, upd_ne hqan]; exact hx, by rw [List.length_append, List.length_map, List.length_map, List.length_singleton]; omega, ?_⟩
    obtain ⟨d2, e2⟩ := rd2
    have hx2 : x ≠ an := ne_of e2 hfz (by intro z; cases z)
    have t2 := congrArg List.length hd2
    rw [List.length_drop] at t2
    refine ⟨ns.length - k2, by omega, (KlmNeutral.step S c).1, k2, ds, done ++ (((KlmNeutral.step S c).2.length : Int) :: (KlmNeutral.step S c).2), _, rfl, by rw [hd2]; exact due2, hk2, fun od' u' => st2.offF hfz fun b o e hb => ?_, ⟨d2, ?_⟩, fun b o e n => ?_, ?_, ?_, ?_, rfl⟩
    · rw [upd_ne hb, upd_ne hb, upd_ne hb, upd_ne hb]; exact e
    · rw [upd_ne hx2, upd_ne hx2, upd_ne hx2]; exact e2
    · have hb := ne_of_none e hanH
      rw [upd_ne hb, upd_ne hb, upd_ne hb]
      exact kl2 b o (klL b o e n) n
    · rw [upd_same, List.length_map, List.map_append, List.map_cons, List.append_assoc]
      rfl
    · rw [hans', played_cons, told_cons, List.append_assoc]
    · rw [List.length_append, List.length_cons]
      omega
end
/-! ### the defs of the text -/
structure Defs (K : PySem.W.Frag) (mg : Str → Option Value) (CR CM CB : Addr) : Prop where
  rInit : Di K CR "Reader.__init__" sRInit ["self", "calls"]
  rMore : Dm K CR "has_more" "Reader.has_more" sRMore ["self"]
  rNum : Dm K CR "take_number" "Reader.take_number" sRNum ["self"]
  rRow : Dm K CR "take_row" "Reader.take_row" sRRow ["self"]
  mInit : Di K CM "Machine.__init__" sMInit ["self", "gates", "entries", "levers"]
  bInit : Di K CB "Board.__init__" sBInit ["self"]
  flip : Dn K mg "flipped_behind" sFlip ["kinds", "number"]
  split : Dn K mg "split_gates" sSplit ["numbers"]
  exit : Dn K mg "is_exit" sExit ["place"]
  place : Dn K mg "is_place_from" sPlace ["place", "first", "size"]
  gate : Dn K mg "is_gate" sGate ["gate", "number", "size"]
  ism : Dn K mg "is_machine" sIsM ["gates", "entries", "levers"]
  entry : Dn K mg "is_entry" sEntry ["entry"]
  geared : Dn K mg "has_geared" sGeared ["machine"]
  letgo : Dn K mg "let_go" sLetGo ["machine", "entry"]
  tiltof : Dn K mg "tilt_of" sTiltOf ["machine", "number"]
  pass : Dn K mg "pass_gate" sPass ["machine", "number", "arrived"]
  arr : Dn K mg "arrivals" sArr ["machine", "entry", "count"]
  lgm : Dn K mg "let_go_many" sLgm ["machine", "entry", "count"]
  halv : Dn K mg "halvings" sHalv ["number"]
  dbl : Dn K mg "doublings_till_back" sDbl ["machine", "entry"]
  build : Dn K mg "build" sBuild ["board", "numbers", "entries", "levers"]
  drop : Dn K mg "drop" sDrop ["board", "entry"]
  many : Dn K mg "many" sMany ["board", "entry", "count"]
  run : Dn K mg "run" sRun ["board", "entry", "most"]
  back : Dn K mg "back" sBack ["board", "entry"]
  tilt : Dn K mg "tilt" sTilt ["board", "number", "side"]
  state : Dn K mg "state" sState ["board"]
  aBuild : Dn K mg "answer_build" sABuild ["board", "reader"]
  aDrop : Dn K mg "answer_drop" sADrop ["board", "reader"]
  aMany : Dn K mg "answer_many" sAMany ["board", "reader"]
  aRun : Dn K mg "answer_run" sARun ["board", "reader"]
  aBack : Dn K mg "answer_back" sABack ["board", "reader"]
  aTilt : Dn K mg "answer_tilt" sATilt ["board", "reader"]
  aCall : Dn K mg "answer_call" sACall ["board", "reader"]
theorem Defs.ok {P : Program} {w : World} {K : PySem.W.Frag} {mg : Str → Option Value} {base : Heap} {CR CM CB f : Addr} {fd : FuncData} (D : Defs K mg CR CM CB) (T : Txt K mg CR CM CB) (F : Fun K "answers" "answers" sAns f fd) : FnOk P w K mg base CX0 8 f fd ["calls"] (spAns K) := by
  have cN : CalM P w K mg base CR "take_number" 1 ["self"] (spNum K CR) := ok_num D.rNum T
  have cRow : CalM P w K mg base CR "take_row" 2 ["self"] (spRow K CR) := ok_row D.rRow T cN
  have cEx : Cal P w K mg base "is_exit" 1 ["place"] spExit := ok_exit D.exit T
  have cPl : Cal P w K mg base "is_place_from" 2 ["place", "first", "size"] spPlace := ok_place D.place T cEx
  have cGt : Cal P w K mg base "is_gate" 3 ["gate", "number", "size"] spGate := ok_gate D.gate T cPl
  have cIs : Cal P w K mg base "is_machine" 4 ["gates", "entries", "levers"] (spIsM K) := ok_ism D.ism T cGt cPl
  have cFl : Cal P w K mg base "flipped_behind" 1 ["kinds", "number"] (spFlip K) := ok_flip D.flip T
  have cSp : Cal P w K mg base "split_gates" 1 ["numbers"] (spSplit K) := ok_split D.split T
  have cMI : CalI P w K mg base CM 2 ["self", "gates", "entries", "levers"] (spMInit CM) := ok_minit D.mInit T cFl
  have cEn : Cal P w K mg base "is_entry" 1 ["entry"] spEntry := ok_entry D.entry T
  have cGe : Cal P w K mg base "has_geared" 1 ["machine"] (spGeared CM) := ok_geared D.geared T
  have cLg : Cal P w K mg base "let_go" 1 ["machine", "entry"] (spLetGo CM) := ok_letgo D.letgo T
  have cTo : Cal P w K mg base "tilt_of" 1 ["machine", "number"] (spTiltOf CM) := ok_tiltof D.tiltof T
  have cPa : Cal P w K mg base "pass_gate" 2 ["machine", "number", "arrived"] (spPass CM) := ok_pass D.pass T cTo
  have cAr : Cal P w K mg base "arrivals" 3 ["machine", "entry", "count"] (spArr CM) := ok_arr D.arr T cPa
  have cLm : Cal P w K mg base "let_go_many" 4 ["machine", "entry", "count"] (spLgm CM) := ok_lgm D.lgm T cAr
  have cHa : Cal P w K mg base "halvings" 1 ["number"] spHalv := ok_halv D.halv
  have cDb : Cal P w K mg base "doublings_till_back" 4 ["machine", "entry"] (spDbl CM) := ok_dbl D.dbl T cAr cHa
  have cBu : Cal P w K mg base "build" 5 ["board", "numbers", "entries", "levers"] (spBuild CB CM) := ok_build D.build T cSp cIs cMI
  have cDr : Cal P w K mg base "drop" 2 ["board", "entry"] (spDrop CB CM) := ok_drop D.drop T cEn cLg
  have cMa : Cal P w K mg base "many" 5 ["board", "entry", "count"] (spMany CB CM) := ok_many D.many T cEn cGe cLm
  have cRu : Cal P w K mg base "run" 2 ["board", "entry", "most"] (spRun CB CM) := ok_run D.run T cEn cLg
  have cBk : Cal P w K mg base "back" 5 ["board", "entry"] (spBack CB CM) := ok_back D.back T cEn cGe cDb
  have cTi : Cal P w K mg base "tilt" 2 ["board", "number", "side"] (spTilt CB CM) := ok_tilt D.tilt T cTo
  have cSt : Cal P w K mg base "state" 1 ["board"] (spState CB CM) := ok_state D.state T
  have a0 : Cal P w K mg base "answer_build" 6 ["board", "reader"] (spAB K CB CM CR) := ok_abuild D.aBuild T cRow cBu
  have a1 : Cal P w K mg base "answer_drop" 6 ["board", "reader"] (spA1 K CB CM CR 1) := ok_adrop D.aDrop T cN cDr
  have a2 : Cal P w K mg base "answer_many" 6 ["board", "reader"] (spA2 K CB CM CR 2) := ok_amany D.aMany T cN cMa
  have a3 : Cal P w K mg base "answer_run" 6 ["board", "reader"] (spA2 K CB CM CR 3) := ok_arun D.aRun T cN cRu
  have a4 : Cal P w K mg base "answer_back" 6 ["board", "reader"] (spA1 K CB CM CR 4) := ok_aback D.aBack T cN cBk
  have a5 : Cal P w K mg base "answer_tilt" 6 ["board", "reader"] (spA2 K CB CM CR 5) := ok_atilt D.aTilt T cN cTi
  exact ok_answers F T (ok_rinit D.rInit T) (ok_binit D.bInit T) (ok_more D.rMore T) (ok_acall D.aCall T cN a0 a1 a2 a3 a4 a5 cSt)
/-! ### what the top has written -/
section
variable {K : PySem.W.Frag} {h : Heap} {mg : Str → Option Value} {x m qual : Str} {st : Stmt} {ps : List Str} {C f : Addr} {od an : Option Addr} {sl : Array (Option Value)} {oc kV dc pm cd ct : Value}
abbrev BindF (x qual : Str) (st : Stmt) (ps : List Str) : Prop := ∀ (kV doc pm : Value) (an : Option Addr) (cdv ct : Value) (us : List Value), us.length = ps.length →
  bindArgs (PySem.W.fnOf x qual (defArgs st) (defBody st) (defScope st) .none kV doc pm an cdv ct) ⟨us, []⟩ = pure (ps.zip us)
theorem dn_mk (X : K.In h) (G : h.Ns mainGlobals mg) (hb : BindF x x st ps) (a : PySem.W.nsIn K mainGlobals x = some (some (.ref f)))
    (l : K.lookup f = some ⟨oc, od, .func (PySem.W.fnOf x x (defArgs st) (defBody st) (defScope st) .none kV dc pm an cd ct), sl⟩) (c : PySem.W.codeIn K cd x = true) (k : PySem.W.keepIn K (.ref f) = true) : Dn K mg x st ps :=
  ⟨f, _, fun_mk l c k, PySem.W.mg_of X G a, (fun_mk l c k).binds hb⟩
theorem dm_mk (hb : BindF m qual st ps) (a : PySem.W.findIn K (.ref C) m = some (some (.ref f))) (i : PySem.W.isFn K (.ref f) = true)
    (l : K.lookup f = some ⟨oc, od, .func (PySem.W.fnOf m qual (defArgs st) (defBody st) (defScope st) .none kV dc pm an cd ct), sl⟩) (c : PySem.W.codeIn K cd qual = true) (k : PySem.W.keepIn K (.ref f) = true) : Dm K C m qual st ps :=
  ⟨f, _, fun_mk l c k, ⟨a, i, k⟩, (fun_mk l c k).binds hb⟩
theorem di_mk (hb : BindF "__init__" qual st ps) (mk : PySem.W.makesIn K C = true) (kc : PySem.W.keepIn K (.ref C) = true) (a : PySem.W.findIn K (.ref C) "__init__" = some (some (.ref f))) (i : PySem.W.isFn K (.ref f) = true)
    (l : K.lookup f = some ⟨oc, od, .func (PySem.W.fnOf "__init__" qual (defArgs st) (defBody st) (defScope st) .none kV dc pm an cd ct), sl⟩) (c : PySem.W.codeIn K cd qual = true) (k : PySem.W.keepIn K (.ref f) = true) : Di K C qual st ps :=
  ⟨f, _, fun_mk l c k, ⟨mk, a, i, kc⟩, (fun_mk l c k).binds hb⟩
theorem kc_mk {z : Int} {t : Tok} (X : K.In h) (G : h.Ns mainGlobals mg) (a : PySem.W.nsIn K mainGlobals x = some (some (.int z t))) : Kc mg x z := ⟨t, PySem.W.mg_of X G a⟩
theorem cls_mk (pg : PySem.W.plainGet K C Str.empty = true) (hd : PySem.W.hasDictIn K C = true) (po : PySem.W.plainOver K C = true) (sa : PySem.W.findIn K (.ref C) "__setattr__" = some (some (.builtin "object.__setattr__"))) : Cls K C := ⟨pg, hd, po, sa⟩
end
end Mg
set_option Elab.async false
set_option linter.all false
set_option maxRecDepth 100000
open PySem PySem.Spec PyProof.Rows
theorem Mg.all_mk {P : Program} {w : World} {K : PySem.W.Frag} {h : Heap} {mg : Str → Option Value} {fa CR CM CB f : Addr} {od an : Option Addr} {sl : Array (Option Value)} {oc kV dc pm cd ct : Value} (X : K.In h) (G : h.Ns mainGlobals mg) (hfa : mg "answers" = some (.ref fa))
    (aR : PySem.W.nsIn K mainGlobals "Reader" = some (some (.ref CR))) (aM : PySem.W.nsIn K mainGlobals "Machine" = some (some (.ref CM))) (aB : PySem.W.nsIn K mainGlobals "Board" = some (some (.ref CB)))
    (T : Mg.Txt K mg CR CM CB) (D : Mg.Defs K mg CR CM CB) (a : PySem.W.nsIn K mainGlobals "answers" = some (some (.ref f)))
    (l : K.lookup f = some ⟨oc, od, .func (PySem.W.fnOf "answers" "answers" (L2.defArgs Mg.sAns) (L2.defBody Mg.sAns) (L2.defScope Mg.sAns) .none kV dc pm an cd ct), sl⟩) (c : PySem.W.codeIn K cd "answers" = true) (k : PySem.W.keepIn K (.ref f) = true) :
    ∃ fd : FuncData, (∀ (s : Shared) (us : List Value), us.length = (["calls"] : List Str).length → BindsTo s fd ⟨us, []⟩ ((["calls"] : List Str).zip us)) ∧ ∀ base : Heap, K.In base → base.Ns mainGlobals mg → L2.FnOk P w K mg base L2.CX0 8 fa fd ["calls"] (Mg.spAns K) := by
  have e := hfa.symm.trans (PySem.W.mg_of X G a)
  cases e
  exact ⟨PySem.W.fnOf "answers" "answers" (L2.defArgs Mg.sAns) (L2.defBody Mg.sAns) (L2.defScope Mg.sAns) .none kV dc pm an cd ct, fun s us hu => match us, hu with | [_], _ => .of_eq rfl, fun base _ _ => D.ok T (L2.fun_mk l c k)⟩
open PySem PySem.W PyProof.Rows
set_option maxRecDepth 100000 in
set_option maxHeartbeats 0 in
theorem PySem.Challenge.cw_marblegates_s01_answers_holds : PySem.Challenge.rw_marblegates_s01_answers.Holds := by
  w_on; k_headS; (case hw => exact ⟨[.list [.int 0, .int 0, .int 4, .int 64, .int 64, .int 64, .int 64, .int 16, .int 4, .int 4, .int 4, .int 4, .int 4, .int 4, .int 4, .int 4, .int 4, .int 4, .int 4, .int 4, .int 4, .int 4, .int 4, .int 4]], by decide +kernel, by decide +kernel⟩)
  k_fillS
  refine L2.walk_specK (r := PySem.Challenge.rw_marblegates_s01_answers) (k := 8) (CX := L2.CX0) (ps := ["calls"]) (sp := Mg.spAns) (by decide +kernel) rfl rfl ⟨rfl, by decide, by decide⟩ (fun w h Y => PySem.W.kIn_of Y) ?F ?S (fun _ _ _ _ z => z)
  case F =>
    intro w mg fa h Y KX G hmg
    refine' Mg.all_mk KX G hmg ?aR ?aM ?aB ?T ?D ?a ?l ?c ?k
    (case aR => k_is); (case aM => k_is); (case aB => k_is); (case a => k_is); (case l => k_is); (case c => k_is); (case k => k_is)
    case T =>
      exact ⟨Mg.cls_mk (by k_is) (by k_is) (by k_is) (by k_is), Mg.cls_mk (by k_is) (by k_is) (by k_is) (by k_is), Mg.cls_mk (by k_is) (by k_is) (by k_is) (by k_is), (by unfold L2.NoAttr; k_is), (by unfold L2.NoAttr; k_is), (by unfold L2.NoAttr; k_is), (by unfold L2.NoAttr; k_is), (by unfold L2.NoAttr; k_is), (by unfold L2.NoAttr; k_is), (by unfold L2.NoAttr; k_is), (by unfold L2.NoAttr; k_is), (by unfold L2.NoAttr; k_is), PySem.W.mg_of KX G (by k_is), PySem.W.mg_of KX G (by k_is), PySem.W.mg_of KX G (by k_is), PySem.W.mg_none_of KX G (by k_is), PySem.W.mg_none_of KX G (by k_is), PySem.W.mg_none_of KX G (by k_is), PySem.W.mg_none_of KX G (by k_is), PySem.W.mg_none_of KX G (by k_is), PySem.W.mg_none_of KX G (by k_is), PySem.W.mg_none_of KX G (by k_is), Mg.kc_mk KX G (by k_is), Mg.kc_mk KX G (by k_is), Mg.kc_mk KX G (by k_is), Mg.kc_mk KX G (by k_is), Mg.kc_mk KX G (by k_is), Mg.kc_mk KX G (by k_is), Mg.kc_mk KX G (by k_is), Mg.kc_mk KX G (by k_is), Mg.kc_mk KX G (by k_is), Mg.kc_mk KX G (by k_is), Mg.kc_mk KX G (by k_is), Mg.kc_mk KX G (by k_is), Mg.kc_mk KX G (by k_is), Mg.kc_mk KX G (by k_is), Mg.kc_mk KX G (by k_is), Mg.kc_mk KX G (by k_is), Mg.kc_mk KX G (by k_is), Mg.kc_mk KX G (by k_is), Mg.kc_mk KX G (by k_is), Mg.kc_mk KX G (by k_is), Mg.kc_mk KX G (by k_is)⟩
    case D =>
      exact ⟨Mg.di_mk (fun _ _ _ _ _ _ us hl => match us, hl with | [_, _], _ => rfl) (by k_is) (by k_is) (by k_is) (by k_is) (by k_is) (by k_is) (by k_is),
        Mg.dm_mk (fun _ _ _ _ _ _ us hl => match us, hl with | [_], _ => rfl) (by k_is) (by k_is) (by k_is) (by k_is) (by k_is),
        Mg.dm_mk (fun _ _ _ _ _ _ us hl => match us, hl with | [_], _ => rfl) (by k_is) (by k_is) (by k_is) (by k_is) (by k_is),
        Mg.dm_mk (fun _ _ _ _ _ _ us hl => match us, hl with | [_], _ => rfl) (by k_is) (by k_is) (by k_is) (by k_is) (by k_is),
        Mg.di_mk (fun _ _ _ _ _ _ us hl => match us, hl with | [_, _, _, _], _ => rfl) (by k_is) (by k_is) (by k_is) (by k_is) (by k_is) (by k_is) (by k_is),
        Mg.di_mk (fun _ _ _ _ _ _ us hl => match us, hl with | [_], _ => rfl) (by k_is) (by k_is) (by k_is) (by k_is) (by k_is) (by k_is) (by k_is),
        Mg.dn_mk KX G (fun _ _ _ _ _ _ us hl => match us, hl with | [_, _], _ => rfl) (by k_is) (by k_is) (by k_is) (by k_is),
        Mg.dn_mk KX G (fun _ _ _ _ _ _ us hl => match us, hl with | [_], _ => rfl) (by k_is) (by k_is) (by k_is) (by k_is),
        Mg.dn_mk KX G (fun _ _ _ _ _ _ us hl => match us, hl with | [_], _ => rfl) (by k_is) (by k_is) (by k_is) (by k_is),
        Mg.dn_mk KX G (fun _ _ _ _ _ _ us hl => match us, hl with | [_, _, _], _ => rfl) (by k_is) (by k_is) (by k_is) (by k_is),
        Mg.dn_mk KX G (fun _ _ _ _ _ _ us hl => match us, hl with | [_, _, _], _ => rfl) (by k_is) (by k_is) (by k_is) (by k_is),
        Mg.dn_mk KX G (fun _ _ _ _ _ _ us hl => match us, hl with | [_, _, _], _ => rfl) (by k_is) (by k_is) (by k_is) (by k_is),
        Mg.dn_mk KX G (fun _ _ _ _ _ _ us hl => match us, hl with | [_], _ => rfl) (by k_is) (by k_is) (by k_is) (by k_is),
        Mg.dn_mk KX G (fun _ _ _ _ _ _ us hl => match us, hl with | [_], _ => rfl) (by k_is) (by k_is) (by k_is) (by k_is),
        Mg.dn_mk KX G (fun _ _ _ _ _ _ us hl => match us, hl with | [_, _], _ => rfl) (by k_is) (by k_is) (by k_is) (by k_is),
        Mg.dn_mk KX G (fun _ _ _ _ _ _ us hl => match us, hl with | [_, _], _ => rfl) (by k_is) (by k_is) (by k_is) (by k_is),
        Mg.dn_mk KX G (fun _ _ _ _ _ _ us hl => match us, hl with | [_, _, _], _ => rfl) (by k_is) (by k_is) (by k_is) (by k_is),
        Mg.dn_mk KX G (fun _ _ _ _ _ _ us hl => match us, hl with | [_, _, _], _ => rfl) (by k_is) (by k_is) (by k_is) (by k_is),
        Mg.dn_mk KX G (fun _ _ _ _ _ _ us hl => match us, hl with | [_, _, _], _ => rfl) (by k_is) (by k_is) (by k_is) (by k_is),
        Mg.dn_mk KX G (fun _ _ _ _ _ _ us hl => match us, hl with | [_], _ => rfl) (by k_is) (by k_is) (by k_is) (by k_is),
        Mg.dn_mk KX G (fun _ _ _ _ _ _ us hl => match us, hl with | [_, _], _ => rfl) (by k_is) (by k_is) (by k_is) (by k_is),
        Mg.dn_mk KX G (fun _ _ _ _ _ _ us hl => match us, hl with | [_, _, _, _], _ => rfl) (by k_is) (by k_is) (by k_is) (by k_is),
        Mg.dn_mk KX G (fun _ _ _ _ _ _ us hl => match us, hl with | [_, _], _ => rfl) (by k_is) (by k_is) (by k_is) (by k_is),
        Mg.dn_mk KX G (fun _ _ _ _ _ _ us hl => match us, hl with | [_, _, _], _ => rfl) (by k_is) (by k_is) (by k_is) (by k_is),
        Mg.dn_mk KX G (fun _ _ _ _ _ _ us hl => match us, hl with | [_, _, _], _ => rfl) (by k_is) (by k_is) (by k_is) (by k_is),
        Mg.dn_mk KX G (fun _ _ _ _ _ _ us hl => match us, hl with | [_, _], _ => rfl) (by k_is) (by k_is) (by k_is) (by k_is),
        Mg.dn_mk KX G (fun _ _ _ _ _ _ us hl => match us, hl with | [_, _, _], _ => rfl) (by k_is) (by k_is) (by k_is) (by k_is),
        Mg.dn_mk KX G (fun _ _ _ _ _ _ us hl => match us, hl with | [_], _ => rfl) (by k_is) (by k_is) (by k_is) (by k_is),
        Mg.dn_mk KX G (fun _ _ _ _ _ _ us hl => match us, hl with | [_, _], _ => rfl) (by k_is) (by k_is) (by k_is) (by k_is),
        Mg.dn_mk KX G (fun _ _ _ _ _ _ us hl => match us, hl with | [_, _], _ => rfl) (by k_is) (by k_is) (by k_is) (by k_is),
        Mg.dn_mk KX G (fun _ _ _ _ _ _ us hl => match us, hl with | [_, _], _ => rfl) (by k_is) (by k_is) (by k_is) (by k_is),
        Mg.dn_mk KX G (fun _ _ _ _ _ _ us hl => match us, hl with | [_, _], _ => rfl) (by k_is) (by k_is) (by k_is) (by k_is),
        Mg.dn_mk KX G (fun _ _ _ _ _ _ us hl => match us, hl with | [_, _], _ => rfl) (by k_is) (by k_is) (by k_is) (by k_is),
        Mg.dn_mk KX G (fun _ _ _ _ _ _ us hl => match us, hl with | [_, _], _ => rfl) (by k_is) (by k_is) (by k_is) (by k_is),
        Mg.dn_mk KX G (fun _ _ _ _ _ _ us hl => match us, hl with | [_, _], _ => rfl) (by k_is) (by k_is) (by k_is) (by k_is)⟩
  case S =>
    intro K H xs a hO hwi hask hx
    cases hx with
    | cons h1 h2 =>
      cases h2
      cases h1 with
      | lst hs ha =>
        have e := L2.ints_dw a.1 _ ha
        subst e
        exact ⟨_, a.1, rfl, hs, hask, fun H' p hp => .lst (L2.SqL.of hp) (L2.dw_ints _)⟩
#print axioms PySem.Challenge.cw_marblegates_s01_answers_holds
