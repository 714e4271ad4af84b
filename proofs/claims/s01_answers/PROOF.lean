import PyProof.Rows.All
import Wide.All
import OpenK.AllK
import Wide.FinOn
import PyProof.EqAt
import PyProof.EqKinds
import PyProof.TupleCall
import KE.BitLaws
import Open.SpecLaws
import KE.OsHead
import KE.OsGo
import KE.KSortTupG
import PySem.Challenge.RW_smelledwhen_s01_answers
set_option Elab.async false
set_option linter.all false
set_option maxRecDepth 100000
/-! THE HAND LAYER, for ints, bools, texts, own classes, lists, tuples, dicts, comprehensions, walks over dicts, enumerate, zip, reversed, texts, calls, loops. Paste it whole ahead of your own text; what your proof does not reach may be deleted. -/
namespace L2
open PySem PySem.Spec PyProof.Rows

/-- a key: an int or a str -/
abbrev Key := Sum Int Str
def keyIs : Key → Value → Bool
  | .inl k, v => Value.isInt k v
  | .inr x, v => Value.isStrOf x v
def keyH (w : World) : Key → Int
  | .inl k => hashInt k
  | .inr x => hashStr w x
theorem keyIs_shape : ∀ {k : Key} {v : Value}, keyIs k v = true → (∃ i t, k = Sum.inl i ∧ v = Value.int i t) ∨ (∃ x t, k = Sum.inr x ∧ v = Value.str x t)
  | .inl i, v, h => by
    obtain ⟨t, e⟩ := Value.isInt_shape (k := i) (v := v) h
    exact .inl ⟨i, t, rfl, e⟩
  | .inr x, v, h => by
    obtain ⟨t, e⟩ := Value.isStrOf_shape (x := x) (v := v) h
    exact .inr ⟨x, t, rfl, e⟩
theorem key_ll (a b : Int) : decide ((Sum.inl a : Key) = Sum.inl b) = (a == b) := by
  by_cases e : a = b
  · subst e; simp
  · have h : ¬ (Sum.inl a : Key) = Sum.inl b := fun q => e (Sum.inl.inj q)
    rw [decide_eq_false h]
    exact (beq_eq_false_iff_ne.mpr e).symm
theorem key_rr (a b : Str) : decide ((Sum.inr a : Key) = Sum.inr b) = decide (a = b) := by
  by_cases e : a = b
  · subst e; simp
  · have h : ¬ (Sum.inr a : Key) = Sum.inr b := fun q => e (Sum.inr.inj q)
    rw [decide_eq_false h, decide_eq_false e]
theorem key_lr (a : Int) (b : Str) : decide ((Sum.inl a : Key) = Sum.inr b) = false := decide_eq_false (fun q => nomatch q)
theorem key_rl (a : Str) (b : Int) : decide ((Sum.inr a : Key) = Sum.inl b) = false := decide_eq_false (fun q => nomatch q)

def mixKind (prog : Program) (w : World) : PySem.KeyKind prog w Key where
  is := keyIs
  hash := keyH w
  inj := fun v a b ha hb => by
    rcases keyIs_shape ha with ⟨i, t, rfl, rfl⟩ | ⟨x, t, rfl, rfl⟩
    · rcases keyIs_shape hb with ⟨j, u, rfl, e⟩ | ⟨y, u, rfl, e⟩
      · injection e with e1 _; rw [e1]
      · exact nomatch e
    · rcases keyIs_shape hb with ⟨j, u, rfl, e⟩ | ⟨y, u, rfl, e⟩
      · exact nomatch e
      · injection e with e1 _; rw [e1]
  byValue := fun k v h => by
    rcases keyIs_shape h with ⟨i, t, rfl, rfl⟩ | ⟨x, t, rfl, rfl⟩ <;> rfl
  pyHash := fun hv h => by
    rcases keyIs_shape hv with ⟨i, t, rfl, rfl⟩ | ⟨x, t, rfl, rfl⟩
    · exact wpAny_pyHash_int h
    · exact wpAny_pyHash_str h
  eqBool := fun hu hv h => by
    rcases keyIs_shape hu with ⟨i, t, rfl, rfl⟩ | ⟨x, t, rfl, rfl⟩
    · rcases keyIs_shape hv with ⟨j, u, rfl, rfl⟩ | ⟨y, u, rfl, rfl⟩
      · rw [key_ll] at h; exact wpAny_eqBool_int h
      · rw [key_lr] at h; exact SeqAt.EqAt.int_str i t y u _ _ _ _ h
    · rcases keyIs_shape hv with ⟨j, u, rfl, rfl⟩ | ⟨y, u, rfl, rfl⟩
      · rw [key_rl] at h; exact SeqAt.EqAt.str_int x t j u _ _ _ _ h
      · rw [key_rr] at h; exact wpAny_eqBool_str h
  «strs» := fun k x t v h => by
    rcases keyIs_shape h with ⟨i, u, rfl, e⟩ | ⟨y, u, rfl, e⟩
    · exact nomatch e
    · injection e with e1 _
      subst e1
      cases v <;> rfl

end L2

namespace L2
open PySem PySem.Spec PyProof.Rows

/-- a value, without the heap -/
inductive V where
  | non | bl (b : Bool) | int (i : Int) | str (x : Str) | byt (b : Array UInt8) | flt (b : UInt64) | ref (a : Addr) | ty (n : String)
  deriving DecidableEq

def RelV : V → Value → Prop
  | .non, u => u = Value.none
  | .bl b, u => u = Value.bool b
  | .int i, u => ∃ t, u = Value.int i t
  | .str x, u => ∃ t, u = Value.str x t
  | .byt b, u => ∃ t, u = Value.bytes b t
  | .flt b, u => ∃ t, u = Value.float b t
  | .ref a, u => u = Value.ref a
  | .ty n, u => u = Value.type n

abbrev Vals : List V → List Value → Prop := Paired RelV
theorem Vals.length {xs : List V} {us : List Value} (r : Vals xs us) : xs.length = us.length := Paired.length r
theorem Vals.get : ∀ {xs : List V} {us : List Value} {i : Nat} {x : V}, Vals xs us → xs[i]? = some x → ∃ u, us[i]? = some u ∧ RelV x u
  | _, _, _, _, .nil, e => by simp at e
  | _, _, 0, _, .cons r _, e => by simp at e; subst e; exact ⟨_, rfl, r⟩
  | _, _, i + 1, x, .cons _ t, e => by
    obtain ⟨u, h1, h2⟩ := Vals.get (i := i) (x := x) t (by simpa using e)
    exact ⟨u, by simpa using h1, h2⟩
theorem Vals.set {x : V} {u : Value} (r : RelV x u) : ∀ {xs : List V} {us : List Value} (i : Nat), Vals xs us → Vals (xs.set i x) (us.set i u)
  | _, _, _, .nil => .nil
  | _, _, 0, .cons _ t => .cons r t
  | _, _, i + 1, .cons q t => .cons q (Vals.set r i t)
theorem Vals.append : ∀ {xs ys : List V} {us ws : List Value}, Vals xs us → Vals ys ws → Vals (xs ++ ys) (us ++ ws)
  | _, _, _, _, .nil, s => s
  | _, _, _, _, .cons r t, s => .cons r (Vals.append t s)
theorem Vals.take : ∀ {xs : List V} {us : List Value} (n : Nat), Vals xs us → Vals (xs.take n) (us.take n)
  | _, _, 0, _ => .nil
  | _, _, _ + 1, .nil => .nil
  | _, _, n + 1, .cons r t => .cons r (Vals.take n t)
theorem Vals.drop : ∀ {xs : List V} {us : List Value} (n : Nat), Vals xs us → Vals (xs.drop n) (us.drop n)
  | _, _, 0, r => r
  | _, _, _ + 1, .nil => .nil
  | _, _, n + 1, .cons _ t => Vals.drop n t

def RelO : Option V → Option Value → Prop
  | some v, some u => RelV v u
  | none, none => True
  | _, _ => False
def KV {κ : Type} : List (κ × V) → List (κ × Value) → Prop := Paired fun (p : κ × V) (q : κ × Value) => p.1 = q.1 ∧ RelV p.2 q.2

/-- a key of a dict (00_mix): an int or a text -/
def kV : Key → V
  | .inl i => .int i
  | .inr x => .str x

/-- what stands at a tracked address -/
inductive HO where
  /-- a list -/
  | lst (xs : List V)
  /-- a tuple (never changes) -/
  | tup (xs : List V)
  /-- a dict whose keys are ints and texts; one whose keys are tuples of ints and texts (the empty one is both) -/
  | dK (kvs : List (Key × V)) | dT (kvs : List (List Key × V))
  /-- a set of ints: its members, its size -/
  | set (S : Int → Bool) (n : Nat)
  /-- an instance of the class at C, its dict at dx, its attributes -/
  | ins (C dx : Addr) (fs : List (Str × V))
  /-- the dict of the instance at x -/
  | own (x : Addr)
  /-- the dict of an exception -/
  | xd (fs : List (Str × V))
  /-- a bound method, f of x -/
  | met (f x : Addr)
  /-- a range object lo, lo + 1, .. below hi -/
  | rng (lo hi : Int)
  /-- a thing that is known to the object (the script; a dict while a loop walks it): read, never written while it is so -/
  | frz (o : Obj) (u : HO)
  /-- a code object's table -/
  | tbl (ps : Array Value)
  /-- any other thing, by what is true of its one object (a def of one's own: SetO a S n := HO.ext fun h => ..) -/
  | ext (φ : Heap → Prop)

abbrev Hp := Addr → Option HO
def upd (H : Hp) (a : Addr) (o : HO) : Hp := fun b => if b = a then some o else H b
theorem upd_same {H : Hp} {a : Addr} {o : HO} : upd H a o a = some o := by unfold upd; rw [if_pos rfl]
theorem upd_ne {H : Hp} {a b : Addr} {o : HO} (h : b ≠ a) : upd H a o b = H b := by unfold upd; rw [if_neg h]
/-- two objects of different content stand apart -/
theorem ne_of {H : Hp} {a b : Addr} {o u : HO} (h : H a = some o) (h' : H b = some u) (d : o ≠ u) : a ≠ b := by
  intro e; subst e; rw [h] at h'; exact d (Option.some.inj h')
theorem ne_of_none {H : Hp} {a b : Addr} {o : HO} (h : H a = some o) (h' : H b = none) : a ≠ b := by
  intro e; subst e; rw [h] at h'; cases h'

section
variable (P : Program) (w : World)
def ObjOk (H : Hp) (h : Heap) (a : Addr) : HO → Prop
  | .lst xs => xs.length ≤ sizeLine ∧ ∃ (its : List Value) (n : Nat), Vals xs its ∧ h.get? a = some { cls := .type "list", data := .seq its.toArray n }
  | .tup xs => xs.length ≤ sizeLine ∧ ∃ its : List Value, Vals xs its ∧ IsTup h a its.toArray
  | .dK kvs => kvs.length ≤ sizeLine ∧ (a == sysModules) = false ∧ ∃ vs, KV kvs vs ∧ h.DictOf (mixKind P w) a vs
  | .dT kvs => kvs.length ≤ sizeLine ∧ (a == sysModules) = false ∧ ∃ xs : List (List Key × Addr × Value),
      Paired (fun (p : List Key × V) (q : List Key × Addr × Value) => p.1 = q.1 ∧ H q.2.1 = some (.tup (p.1.map kV)) ∧ RelV p.2 q.2.2) kvs xs ∧
      ∃ o es ep, h.get? a = some o ∧ o.ExactDict ∧ o.data = .dict es ep ∧ es.toList = xs.map (entryOfKey (tupleKind (mixKind P w))) ∧ (xs.map (·.1)).Nodup
  | .set S n => h.SetOf (intKind P w) a S n
  | .ins C dx fs => H dx = some (.own a) ∧ fs.length ≤ 1000 ∧ dx ≠ a ∧ h.get? a = some (PySem.W.instObj C dx) ∧
      ∃ mA, h.Ns1 dx mA ∧ (∀ f, RelO (fs.lookup f) (mA f)) ∧ PySem.Within mA (fs.map (·.1))
  | .own _ => ∃ o, h.get? a = some o
  | .xd fs => ∃ mA, h.Ns1 a mA ∧ ∀ f, RelO (fs.lookup f) (mA f)
  | .rng lo hi => ∃ t u v, h.get? a = some { cls := .type "range", data := .fields #[.int lo t, .int hi u, .int 1 v] }
  | .frz o u => h.get? a = some o ∧ ObjOk H h a u
  | .tbl ps => h.get? a = some { cls := .none, data := .fields ps }
  | .met f x => h.get? a = some (PySem.W.methodObj (.ref f) (.ref x))
  | .ext φ => φ h ∧ (∃ o, h.get? a = some o) ∧ ∀ h1 h2 : Heap, φ h1 → (∀ o, h1.get? a = some o → h2.get? a = some o) → φ h2
/-- the abstract heap is held -/
def HOk (H : Hp) (h : Heap) : Prop := ∀ a o, H a = some o → ObjOk P w H h a o
end

section
variable {P : Program} {w : World} {H H' : Hp} {h h' : Heap} {a : Addr} {o : HO}
theorem ObjOk.lt (x : ObjOk P w H h a o) : a < h.objs.size := by
  cases o with
  | lst xs => obtain ⟨_, _, _, _, e⟩ := x; exact Heap.lt_size e
  | tup xs => obtain ⟨_, _, _, p⟩ := x; exact p.lt
  | dK kvs => obtain ⟨_, _, _, _, o, _, _, e, _⟩ := x; exact Heap.lt_size e
  | dT kvs => obtain ⟨_, _, _, _, o, _, _, e, _⟩ := x; exact Heap.lt_size e
  | set S n => obtain ⟨o, _, _, _, e, _⟩ := x; exact Heap.lt_size e
  | ins C dx fs => obtain ⟨_, _, _, e, _⟩ := x; exact Heap.lt_size e
  | own y => obtain ⟨_, e⟩ := x; exact Heap.lt_size e
  | xd fs => obtain ⟨_, ⟨_, _, _, e, _⟩, _⟩ := x; exact Heap.lt_size e
  | rng lo hi => obtain ⟨_, _, _, e⟩ := x; exact Heap.lt_size e
  | frz ob u => obtain ⟨e, _⟩ := x; exact Heap.lt_size e
  | tbl ps => exact Heap.lt_size (show h.get? a = some _ from x)
  | met f y => exact Heap.lt_size (show h.get? a = some _ from x)
  | ext φ => obtain ⟨_, ⟨_, e⟩, _⟩ := x; exact Heap.lt_size e
theorem Paired.mapP {α β : Type} {F G : α → β → Prop} : ∀ {l₁ : List α} {l₂ : List β}, Paired F l₁ l₂ → (∀ a b, F a b → G a b) → Paired G l₁ l₂
  | _, _, .nil, _ => .nil
  | _, _, .cons r t, f => .cons (f _ _ r) (Paired.mapP t f)
/-- what an object's description leans on: its own object, its own dict, the tuples -/
theorem ObjOk.stay (x : ObjOk P w H h a o) (k : ∀ b u, (b = a ∨ H b = some (.own a)) → h.get? b = some u → h'.get? b = some u)
    (ho : ∀ b, H b = some (.own a) → H' b = some (.own a)) (ht : ∀ b xs, H b = some (.tup xs) → H' b = some (.tup xs)) : ObjOk P w H' h' a o := by
  induction o with
  | lst xs => obtain ⟨z, its, n, r, e⟩ := x; exact ⟨z, its, n, r, k _ _ (.inl rfl) e⟩
  | tup xs => obtain ⟨z, its, r, ob, e, c⟩ := x; exact ⟨z, its, r, ob, k _ _ (.inl rfl) e, c⟩
  | dK kvs => obtain ⟨z, y, vs, r, ob, es, ep, e, c⟩ := x; exact ⟨z, y, vs, r, ob, es, ep, k _ _ (.inl rfl) e, c⟩
  | dT kvs =>
    obtain ⟨z, y, xs, r, ob, es, ep, e, c⟩ := x
    exact ⟨z, y, xs, Paired.mapP r fun p q z => ⟨z.1, ht _ _ z.2.1, z.2.2⟩, ob, es, ep, k _ _ (.inl rfl) e, c⟩
  | set S n => obtain ⟨ob, es, ep, t, e, c⟩ := x; exact ⟨ob, es, ep, t, k _ _ (.inl rfl) e, c⟩
  | ins C dx fs =>
    obtain ⟨d, z, ne, e, mA, ⟨od, es, ep, e2, c⟩, r⟩ := x
    exact ⟨ho _ d, z, ne, k _ _ (.inl rfl) e, mA, ⟨od, es, ep, k _ _ (.inr d) e2, c⟩, r⟩
  | own y => obtain ⟨ob, e⟩ := x; exact ⟨ob, k _ _ (.inl rfl) e⟩
  | xd fs => obtain ⟨mA, ⟨od, es, ep, e, c⟩, r⟩ := x; exact ⟨mA, ⟨od, es, ep, k _ _ (.inl rfl) e, c⟩, r⟩
  | rng lo hi => obtain ⟨t, u, v, e⟩ := x; exact ⟨t, u, v, k _ _ (.inl rfl) e⟩
  | frz ob u ih => obtain ⟨e, q⟩ := x; exact ⟨k _ _ (.inl rfl) e, ih q⟩
  | tbl ps =>
    have e : h.get? a = some { cls := .none, data := .fields ps } := x
    show h'.get? a = some { cls := .none, data := .fields ps }
    exact k a _ (.inl rfl) e
  | met f y =>
    have e : h.get? a = some (PySem.W.methodObj (.ref f) (.ref y)) := x
    show h'.get? a = some (PySem.W.methodObj (.ref f) (.ref y))
    exact k a _ (.inl rfl) e
  | ext φ => obtain ⟨p, ⟨o, e⟩, st⟩ := x; exact ⟨st _ _ p fun o q => k _ _ (.inl rfl) q, ⟨o, k _ _ (.inl rfl) e⟩, st⟩
theorem HOk.lt (x : HOk P w H h) (e : H a = some o) : a < h.objs.size := (x a o e).lt
theorem HOk.fresh (x : HOk P w H h) (e : h.objs.size ≤ a) : H a = none := by
  cases q : H a with
  | none => rfl
  | some u => exact absurd (Nat.lt_of_lt_of_le (x.lt q) e) (Nat.lt_irrefl _)
/-- every object of the heap is kept -/
theorem HOk.kept (x : HOk P w H h) (k : ∀ b u, h.get? b = some u → h'.get? b = some u) : HOk P w H h' := fun a o e =>
  (x a o e).stay (fun b u _ q => k b u q) (fun _ q => q) fun _ _ q => q
/-- a new object is laid and tracked -/
theorem HOk.laid (x : HOk P w H h) (k : ∀ b u, h.get? b = some u → h'.get? b = some u) (hp : h.objs.size ≤ a) (new : ObjOk P w (upd H a o) h' a o) : HOk P w (upd H a o) h' := fun b u e => by
  have hn := x.fresh hp
  by_cases hb : b = a
  · subst hb; rw [upd_same] at e; cases e; exact new
  · rw [upd_ne hb] at e
    exact (x b u e).stay (fun c v _ q => k c v q) (fun c q => by rw [upd_ne (ne_of_none q hn)]; exact q) fun c xs q => by rw [upd_ne (ne_of_none q hn)]; exact q
end

/-- what may be read as u: it is u, or a known u -/
def Rd (H : Hp) (a : Addr) (u : HO) : Prop := H a = some u ∨ ∃ o, H a = some (.frz o u)
theorem Rd.ok {P : Program} {w : World} {H : Hp} {h : Heap} {a : Addr} {u : HO} (r : Rd H a u) (x : HOk P w H h) : ObjOk P w H h a u := by
  rcases r with r | ⟨o, r⟩
  · exact x a u r
  · obtain ⟨_, q⟩ := x a _ r
    exact q
/-- what may be written -/
def Mut : Option HO → Prop
  | some (.lst _) => True
  | some (.dK _) => True
  | some (.dT _) => True
  | some (.set _ _) => True
  | some (.ins _ _ _) => True
  | some (.ext _) => True
  | _ => False
section
variable {P : Program} {w : World} {H : Hp} {h h' : Heap} {x e : Addr} {o' : HO}
/-- the object at e is changed: x itself, or the dict of the instance x -/
theorem HOk.write (ok : HOk P w H h) (mu : Mut (H x)) (he : e = x ∨ H e = some (.own x)) (k : ∀ b u, b ≠ e → h.get? b = some u → h'.get? b = some u) (heo : ∃ u, h'.get? e = some u)
    (new : ObjOk P w (upd H x o') h' x o') : HOk P w (upd H x o') h' := fun b u q => by
  have nown : ∀ c y, H c = some (.own y) → c ≠ x := fun c y r z => by subst z; rw [r] at mu; exact mu
  have ntup : ∀ c xs, H c = some (.tup xs) → c ≠ x := fun c xs r z => by subst z; rw [r] at mu; exact mu
  by_cases hb : b = x
  · subst hb; rw [upd_same] at q; cases q; exact new
  · rw [upd_ne hb] at q
    by_cases hbe : b = e
    · have q' : H b = some (.own x) := by
        rcases he with z | z
        · exact absurd (hbe.trans z) hb
        · rw [hbe]; exact z
      rw [q] at q'; cases q'
      obtain ⟨v, hv⟩ := heo
      exact ⟨v, by rw [hbe]; exact hv⟩
    · refine (ok b u q).stay (fun c v hc r => k c v ?_ r) (fun c r => by rw [upd_ne (nown c b r)]; exact r) fun c xs r => by rw [upd_ne (ntup c xs r)]; exact r
      rcases hc with rfl | hc
      · exact hbe
      · rintro rfl
        rcases he with z | z
        · exact nown c b hc z
        · rw [hc] at z; cases z; exact hb rfl
end

/-! ### kept unless tracked; of the frames at fs (the callers') the slots may change (an exception that passes writes there); of the records at ex (iterators) nothing is said -/
structure Un (fs ex : List Addr) (H H' : Hp) (h h' : Heap) : Prop where
  keep : ∀ b o, h.get? b = some o → H b = none → b ∉ fs → b ∉ ex → h'.get? b = some o
  slot : ∀ b o, h.get? b = some o → H b = none → b ∈ fs → b ∉ ex → ∃ sl, h'.get? b = some { o with slots := sl }
  free : ∀ b o, h.get? b = some o → H b = none → b ∉ ex → H' b = none
  there : ∀ b o, h.get? b = some o → b ∉ ex → ∃ o', h'.get? b = some o'
  tups : ∀ b xs, H b = some (.tup xs) → H' b = some (.tup xs)
  frzs : ∀ b o u, H b = some (.frz o u) → H' b = some (.frz o u)
  tbls : ∀ b ps, H b = some (.tbl ps) → ∃ more, H' b = some (.tbl (ps ++ more))
section
variable {fs fs' ex ex' : List Addr} {H H1 H2 : Hp} {h h1 h2 h' : Heap} {a x e : Addr} {o : HO}
theorem Un.any (u : Un fs ex H H1 h h1) {b : Addr} {ob : Obj} (q : h.get? b = some ob) (n : H b = none) (hx : b ∉ ex) : ∃ sl, h1.get? b = some { ob with slots := sl } := by
  by_cases hb : b ∈ fs
  · exact u.slot b ob q n hb hx
  · exact ⟨ob.slots, u.keep b ob q n hb hx⟩
theorem Un.kept (k : ∀ b u, h.get? b = some u → h'.get? b = some u) : Un fs ex H H h h' :=
  ⟨fun b ob q _ _ _ => k b ob q, fun b ob q _ _ _ => ⟨ob.slots, k b ob q⟩, fun _ _ _ n _ => n, fun b ob q _ => ⟨ob, k b ob q⟩, fun _ _ q => q, fun _ _ _ q => q, fun _ ps q => ⟨#[], by rw [q]; simp⟩⟩
theorem Un.refl : Un fs ex H H h h := Un.kept fun _ _ q => q
theorem Un.laid (k : ∀ b u, h.get? b = some u → h'.get? b = some u) (hp : h.objs.size ≤ a) (hn : H a = none) : Un fs ex H (upd H a o) h h' where
  keep := fun b u q _ _ _ => k b u q
  slot := fun b u q _ _ _ => ⟨u.slots, k b u q⟩
  free := fun b u q n _ => by rw [upd_ne (Nat.ne_of_lt (Nat.lt_of_lt_of_le (Heap.lt_size q) hp))]; exact n
  there := fun b u q _ => ⟨u, k b u q⟩
  tups := fun b xs q => by rw [upd_ne (ne_of_none q hn)]; exact q
  frzs := fun b u xs q => by rw [upd_ne (ne_of_none q hn)]; exact q
  tbls := fun b ps q => ⟨#[], by rw [upd_ne (ne_of_none q hn), q]; simp⟩
theorem Un.write (mu : Mut (H x)) (he : e = x ∨ H e = some (.own x)) (k : ∀ b u, b ≠ e → h.get? b = some u → h'.get? b = some u) (heo : ∃ u, h'.get? e = some u) : Un fs ex H (upd H x o) h h' := by
  have hx : ∀ b, H b = none → b ≠ x := fun b n z => by subst z; rw [n] at mu; exact mu
  have hb : ∀ b, H b = none → b ≠ e := fun b n z => by
    subst z
    rcases he with r | r
    · exact hx b n r
    · rw [n] at r; cases r
  have hm : ∀ b u, H b = some u → ¬ Mut (some u) → b ≠ x := fun b u q nm z => by subst z; rw [q] at mu; exact nm mu
  refine ⟨fun b u q n _ _ => k b u (hb b n) q, fun b u q n _ _ => ⟨u.slots, k b u (hb b n) q⟩, fun b u q n _ => by rw [upd_ne (hx b n)]; exact n, fun b u q _ => ?_,
    fun b xs q => by rw [upd_ne (hm b _ q fun z => z)]; exact q, fun b u xs q => by rw [upd_ne (hm b _ q fun z => z)]; exact q, fun b ps q => ⟨#[], by rw [upd_ne (hm b _ q fun z => z), q]; simp⟩⟩
  by_cases hbe : b = e
  · subst hbe; exact heo
  · exact ⟨u, k b u hbe q⟩
end

/-! ### the heap without what is tracked -/
def trk (h : Heap) (H : Hp) : List Addr := (List.range h.objs.size).filter fun a => (H a).isSome
def hidT (h : Heap) (H : Hp) : Heap := PySem.W.hideAll h (trk h H)
theorem hidT_size (h : Heap) (H : Hp) : (hidT h H).objs.size = h.objs.size := PySem.W.hideAll_size _ _
theorem hidT_get {h : Heap} {H : Hp} {b : Addr} {o : Obj} (e : h.get? b = some o) (n : H b = none) : (hidT h H).get? b = some o :=
  PySem.W.hideAll_get _ e fun hm => by
    have q : (H b).isSome = true := (List.mem_filter.mp hm).2
    rw [n] at q; simp at q
theorem of_hidT {h : Heap} {H : Hp} {b : Addr} {o : Obj} (e : (hidT h H).get? b = some o) : h.get? b = some o ∧ H b = none := by
  have e' : h.get? b = some o := PySem.W.of_hideAll (trk h H) e
  refine ⟨e', ?_⟩
  cases q : H b with
  | none => rfl
  | some x =>
    have hm : b ∈ trk h H := List.mem_filter.mpr ⟨List.mem_range.mpr (Heap.lt_size e'), by simp [q]⟩
    have z : (hidT h H).get? b = none := PySem.W.hideAll_none (trk h H) hm
    rw [z] at e; cases e

/-! ### OpenK's ledger, filled with every new object but one -/
def allNews (g h : Heap) (L : Addr) : List (Addr × Obj) := (List.range h.objs.size).filterMap fun a => if a = L ∨ (g.get? a).isSome = true then none else (h.get? a).map fun o => (a, o)
def rest (g h : Heap) (L d : Addr) : List (Addr × Obj) := (allNews g h L).filter fun p => decide (p.1 ≠ d)
end L2

namespace L2
open PySem PySem.Spec PyProof.Rows

/-- the module's facts, over the base: the heap at the law's entry without what is tracked there -/
structure Mod (K : PySem.W.Frag) (mg : Str → Option Value) (base : Heap) : Prop where
  kin : K.In base
  glob : base.Ns mainGlobals mg
  blt : ∃ mb, base.Ns builtinsNs mb ∧ ∀ x : Str, x ≠ "__name__" → mb x = bootBuiltins x
  nolimit : base.NoLimit

/-- the context: a def's body (or a comprehension's block) running. base: fixed through the whole law; s₀, H₀: the entry; outer: the frames whose slots others may change (a def's callers); stack: all frames that run;
   ex: iterators that were made ahead of the entry and are walked here (a comprehension's); fn: the names whose cells were made at the entry (a def: all; a comprehension's block: its own); calm: not within an except suite; pn: pins that every state bears; xe: what is wanted of an exception that leaves the code -/
structure Cx where
  prog : Program
  w : World
  K : PySem.W.Frag
  mg : Str → Option Value
  base : Heap
  A : Around
  N : List Str
  s_0 : Shared
  H_0 : Hp
  env : Env
  outer : List Env
  stack : List Env
  ex : List Addr
  fn : Str → Bool
  calm : Bool
  pn : List (Addr × Obj)
  xe : Value → Shared → Prop
/-- the callers' frames -/
def frs (l : List Env) : List Addr := l.filterMap (·.frame)
abbrev Cx.fs (X : Cx) : List Addr := frs X.outer

def Vis (sc : Scope) (x : Str) : Prop := sc.names.lookup x = some .local ∨ sc.names.lookup x = some .cell ∨ sc.names.lookup x = some .free
def Loc (sc : Scope) (x : Str) : Prop := sc.names.lookup x = some .local ∨ sc.names.lookup x = some .cell
def Look (env : Env) (h : Heap) (m : Str → Option Value) (x : Str) (u : Value) : Prop :=
  (env.kindOf x = some .local ∧ m x = some u) ∨ ((env.kindOf x = some .cell ∨ env.kindOf x = some .free) ∧ ∃ c, env.cells.lookup x = some c ∧ h.IsCell c (some u))

structure Cx.Ok (X : Cx) : Prop where
  mod : Mod X.K X.mg X.base
  kind : X.env.scope.kind = .function
  glob : X.env.globals = mainGlobals
  blt : X.env.builtins = builtinsNs
  above : X.s_0.heap.objs.size ≤ X.env.locals
  inj : ∀ x y c, X.env.cells.lookup x = some c → X.env.cells.lookup y = some c → x = y
  has : ∀ x, (X.env.kindOf x = some .cell ∨ X.env.kindOf x = some .free) → ∃ c, X.env.cells.lookup x = some c
  cab : ∀ x c, X.fn x = true → X.env.cells.lookup x = some c → X.s_0.heap.objs.size ≤ c
  hd : X.calm = true → X.A.handled = none
  frames : X.A.frames = some X.stack
  stk : X.stack = X.outer ∨ (X.stack = X.env :: X.outer ∧ X.env.frame = some X.env.locals)
  exf : ∀ b ∈ X.ex, b ≠ X.env.locals ∧ ∀ x c, X.env.cells.lookup x = some c → c ≠ b
  bs : ∀ b o, X.base.get? b = some o → X.s_0.heap.get? b = some o ∧ X.H_0 b = none
  bsz : X.base.objs.size ≤ X.s_0.heap.objs.size
  noex : ∀ b o, X.base.get? b = some o → b ∉ X.ex
  exfs : ∀ b ∈ X.ex, b ∉ X.fs
  funs : X.s_0.heap.FunFrames X.base X.outer
  frf : ∀ b ∈ X.fs, X.H_0 b = none

structure Inv (X : Cx) (pins : List (Addr × Obj)) (σ : List (Option V)) (H : Hp) (s : Shared) : Prop where
  ok : X.Ok
  os : s.os = X.s_0.os
  bare : AllBare s.gens
  base : Un X.fs X.ex X.H_0 H X.s_0.heap s.heap
  loc : ∃ m, s.heap.Ns X.env.locals m ∧ ∀ (i : Nat) (x : Str) (v : V), X.N[i]? = some x → σ[i]? = some (some v) → Vis X.env.scope x → ∃ u, RelV v u ∧ Look X.env s.heap m x u
  cell : ∀ x c, X.env.cells.lookup x = some c → ∃ v, s.heap.IsCell c v
  free : H X.env.locals = none
  freeC : ∀ x c, X.env.cells.lookup x = some c → H c = none
  pin : ∀ p ∈ X.pn ++ pins, s.heap.get? p.1 = some p.2 ∧ H p.1 = none ∧ p.1 ≠ X.env.locals ∧ p.1 ∉ X.fs ∧ ∀ v, p.2.data ≠ .cell v
  hok : HOk X.prog X.w H s.heap
  len : σ.length = X.N.length

section
variable {X : Cx} {pins : List (Addr × Obj)} {σ : List (Option V)} {H H' : Hp} {s : Shared} {h' : Heap}

theorem Cx.Ok.nofr (ok : X.Ok) {b : Addr} {o : Obj} (e : X.base.get? b = some o) : b ∉ X.fs := fun hb => by
  have := (ok.funs.mem hb).1
  rw [e] at this; cases this
theorem Inv.bs (I : Inv X pins σ H s) : ∀ b o, X.base.get? b = some o → s.heap.get? b = some o ∧ H b = none := fun b o e =>
  ⟨I.base.keep b o (I.ok.bs b o e).1 (I.ok.bs b o e).2 (I.ok.nofr e) (I.ok.noex b o e), I.base.free b o (I.ok.bs b o e).1 (I.ok.bs b o e).2 (I.ok.noex b o e)⟩
theorem Inv.bk (I : Inv X pins σ H s) : ∀ b o, X.base.get? b = some o → s.heap.get? b = some o := fun b o e => (I.bs b o e).1
theorem Inv.mod (I : Inv X pins σ H s) : Mod X.K X.mg X.base := I.ok.mod
theorem Inv.kIn (I : Inv X pins σ H s) : X.K.In s.heap := I.ok.mod.kin.keeps I.bk
theorem Inv.lt (I : Inv X pins σ H s) : X.env.locals < s.heap.objs.size := let ⟨_, hn, _⟩ := I.loc; hn.lt
theorem Inv.sz (I : Inv X pins σ H s) : X.s_0.heap.objs.size ≤ s.heap.objs.size := Nat.le_trans I.ok.above (Nat.le_of_lt I.lt)
theorem Inv.nofs (I : Inv X pins σ H s) {a : Addr} (h : s.heap.objs.size ≤ a) : a ∉ X.fs := fun hb => by
  obtain ⟨_, o, ho, _⟩ := I.ok.funs.mem hb
  exact absurd (Nat.lt_of_lt_of_le (Heap.lt_size ho) (Nat.le_trans I.sz h)) (Nat.lt_irrefl _)
theorem Inv.cne (I : Inv X pins σ H s) : ∀ x c, X.env.cells.lookup x = some c → c ≠ X.env.locals := fun x c e z => by
  obtain ⟨v, o, ho, hd⟩ := I.cell x c e
  obtain ⟨m, ⟨o', es, ep, ho', hd', _⟩, _⟩ := I.loc
  rw [z, ho'] at ho; cases ho; rw [hd'] at hd; cases hd
theorem Inv.funs (I : Inv X pins σ H s) : s.heap.FunFrames X.base X.outer := by
  have all : ∀ (l : List Env), (∀ b ∈ frs l, b ∈ X.fs) → X.s_0.heap.FunFrames X.base l → s.heap.FunFrames X.base l := by
    intro l
    induction l with
    | nil => intro _ _; trivial
    | cons env r ih =>
      intro hs hl
      obtain ⟨hk, ⟨L, o, hf, hn, ho, hd⟩, hr⟩ := hl
      have hL : L ∈ X.fs := hs L (by unfold frs; rw [List.filterMap_cons, hf]; exact List.mem_cons_self)
      obtain ⟨sl, e⟩ := I.base.slot L o ho (I.ok.frf L hL) hL fun z => I.ok.exfs L z hL
      exact ⟨hk, ⟨L, _, hf, hn, e, hd⟩, ih (fun b hb => hs b (by unfold frs; rw [List.filterMap_cons, hf]; exact List.mem_cons_of_mem _ hb)) hr⟩
  exact all X.outer (fun _ hb => hb) I.ok.funs

/-- the frames that run, for a call -/
theorem Inv.stack (I : Inv X pins σ H s) : s.heap.FunFrames X.base X.stack := by
  rcases I.ok.stk with e | ⟨e, hf⟩
  · rw [e]; exact I.funs
  · rw [e]
    obtain ⟨m, hn, _⟩ := I.loc
    refine .cons (by rw [I.ok.kind]; decide) hf hn ?_ I.funs
    exact Heap.get?_none_of_le (Nat.le_trans I.ok.bsz I.ok.above)
theorem Inv.stkSub (I : Inv X pins σ H s) : ∀ b ∈ frs X.stack, b ∈ X.env.locals :: X.fs := fun b hb => by
  rcases I.ok.stk with e | ⟨e, hf⟩
  · rw [e] at hb; exact List.mem_cons_of_mem _ hb
  · rw [e] at hb
    unfold frs at hb
    rw [List.filterMap_cons, hf] at hb
    exact hb
theorem Inv.stkFree (I : Inv X pins σ H s) : ∀ b ∈ frs X.stack, H b = none := fun b hb => by
  rcases List.mem_cons.mp (I.stkSub b hb) with e | hb
  · rw [e]; exact I.free
  · obtain ⟨_, o, ho, _⟩ := I.ok.funs.mem hb
    exact I.base.free b o ho (I.ok.frf b hb) fun z => I.ok.exfs b z hb

/-- THE STEP: the untracked objects but the frame and the records at ch are kept (the callers' frames up to slots), the frame's map is kept, the new abstract heap is held -/
theorem Inv.step {g' : Array GenState} {t' : Nat} {d' : Drawn} {ch : List Addr} (I : Inv X pins σ H s)
    (hch : ∀ b ∈ ch, (b ∈ X.ex ∨ X.s_0.heap.objs.size ≤ b) ∧ b ≠ X.env.locals ∧ (∀ x c, X.env.cells.lookup x = some c → c ≠ b) ∧ ∀ p ∈ X.pn ++ pins, p.1 ≠ b)
    (keep : ∀ b o, b ≠ X.env.locals → b ∉ X.fs → b ∉ ch → s.heap.get? b = some o → H b = none → h'.get? b = some o)
    (slot : ∀ b o, b ≠ X.env.locals → b ∈ X.fs → b ∉ ch → s.heap.get? b = some o → H b = none → ∃ sl, h'.get? b = some { o with slots := sl }) (free : ∀ b o, b ∉ ch → s.heap.get? b = some o → H b = none → H' b = none)
    (there : ∀ b o, b ∉ ch → s.heap.get? b = some o → ∃ o', h'.get? b = some o')
    (tups : ∀ b xs, H b = some (.tup xs) → H' b = some (.tup xs)) (frzs : ∀ b o u, H b = some (.frz o u) → H' b = some (.frz o u)) (tbls : ∀ b ps, H b = some (.tbl ps) → ∃ more, H' b = some (.tbl (ps ++ more)))
    (ns : ∀ m, s.heap.Ns X.env.locals m → h'.Ns X.env.locals m) (hok : HOk X.prog X.w H' h') (hg : AllBare g') :
    Inv X pins σ H' { s with heap := h', gens := g', drawn := d', toks := t' } := by
  have neL : ∀ b o, X.s_0.heap.get? b = some o → b ≠ X.env.locals := fun b o e => Nat.ne_of_lt (Nat.lt_of_lt_of_le (Heap.lt_size e) I.ok.above)
  have neC : ∀ b o, X.s_0.heap.get? b = some o → b ∉ X.ex → b ∉ ch := fun b o e hx hb => by
    rcases (hch b hb).1 with z | z
    · exact hx z
    · exact absurd (Nat.lt_of_lt_of_le (Heap.lt_size e) z) (Nat.lt_irrefl _)
  have cellK : ∀ x c, X.env.cells.lookup x = some c → ∀ v, s.heap.IsCell c v → h'.IsCell c v := fun x c e v ⟨o, ho, hd⟩ => by
    have nch : c ∉ ch := fun z => (hch c z).2.2.1 x c e rfl
    by_cases hc : c ∈ X.fs
    · obtain ⟨sl, q⟩ := slot c o (I.cne x c e) hc nch ho (I.freeC x c e)
      exact ⟨_, q, hd⟩
    · exact ⟨o, keep c o (I.cne x c e) hc nch ho (I.freeC x c e), hd⟩
  refine ⟨I.ok, I.os, hg, ⟨fun b o e n hb hx => ?_, fun b o e n hb hx => ?_, fun b o e n hx => ?_, fun b o e hx => ?_, fun b xs e => tups b xs (I.base.tups b xs e), fun b o xs e => frzs b o xs (I.base.frzs b o xs e), fun b ps e => ?_⟩, ?_, fun x c e => ?_, ?_, fun x c e => ?_, fun p hp => ?_, hok, I.len⟩
  · exact keep b o (neL b o e) hb (neC b o e hx) (I.base.keep b o e n hb hx) (I.base.free b o e n hx)
  · obtain ⟨sl, e1⟩ := I.base.slot b o e n hb hx
    obtain ⟨sl', e2⟩ := slot b _ (neL b o e) hb (neC b o e hx) e1 (I.base.free b o e n hx)
    exact ⟨sl', e2⟩
  · obtain ⟨o', e1⟩ := I.base.there b o e hx
    exact free b o' (neC b o e hx) e1 (I.base.free b o e n hx)
  · obtain ⟨o', e1⟩ := I.base.there b o e hx
    exact there b o' (neC b o e hx) e1
  · obtain ⟨m1, e1⟩ := I.base.tbls b ps e
    obtain ⟨m2, e2⟩ := tbls b _ e1
    exact ⟨m1 ++ m2, by rw [e2, Array.append_assoc]⟩
  · obtain ⟨m, hn, hl⟩ := I.loc
    refine ⟨m, ns m hn, fun i x v e1 e2 e3 => ?_⟩
    obtain ⟨u, r, l⟩ := hl i x v e1 e2 e3
    refine ⟨u, r, ?_⟩
    rcases l with l | ⟨k, c, e, z⟩
    · exact .inl l
    · exact .inr ⟨k, c, e, cellK x c e _ z⟩
  · obtain ⟨v, z⟩ := I.cell x c e
    exact ⟨v, cellK x c e v z⟩
  · obtain ⟨m, ⟨o, _, _, ho, _⟩, _⟩ := I.loc
    exact free _ o (fun z => (hch _ z).2.1 rfl) ho I.free
  · obtain ⟨v, o, ho, hd⟩ := I.cell x c e
    exact free c o (fun z => (hch c z).2.2.1 x c e rfl) ho (I.freeC x c e)
  · obtain ⟨e, n, ne, nf, d⟩ := I.pin p hp
    have nch : p.1 ∉ ch := fun z => (hch p.1 z).2.2.2 p hp rfl
    exact ⟨keep p.1 p.2 ne nf nch e n, free p.1 p.2 nch e n, ne, nf, d⟩
/-- .. where the frame's own object is kept too -/
theorem Inv.un {t' : Nat} (I : Inv X pins σ H s) (u : Un X.fs [] H H' s.heap h') (hok : HOk X.prog X.w H' h') : Inv X pins σ H' { s with heap := h', toks := t' } := by
  obtain ⟨m, ⟨o, es, ep, ho, r⟩, _⟩ := id I.loc
  obtain ⟨sl, hL⟩ := u.any ho I.free (by simp)
  exact I.step (g' := s.gens) (d' := s.drawn) (ch := []) (fun _ z => nomatch z) (fun b o _ hb _ e n => u.keep b o e n hb (by simp)) (fun b o _ hb _ e n => u.slot b o e n hb (by simp)) (fun b o _ e n => u.free b o e n (by simp)) (fun b o _ e => u.there b o e (by simp)) u.tups u.frzs u.tbls (fun m' hm => by
    obtain ⟨o', es', ep', ho', r'⟩ := hm
    rw [ho] at ho'; cases ho'
    exact ⟨_, es', ep', hL, r'⟩) hok I.bare
/-- behind a call (or a comprehension's block): the slots of this frame may have changed too, the records at ch may have turned -/
theorem Inv.call {g' : Array GenState} {t' : Nat} {d' : Drawn} {ch : List Addr} (I : Inv X pins σ H s) (u : Un (frs X.stack) ch H H' s.heap h') (hok : HOk X.prog X.w H' h') (hg : AllBare g')
    (hch : ∀ b ∈ ch, (b ∈ X.ex ∨ X.s_0.heap.objs.size ≤ b) ∧ b ≠ X.env.locals ∧ (∀ x c, X.env.cells.lookup x = some c → c ≠ b) ∧ ∀ p ∈ X.pn ++ pins, p.1 ≠ b) :
    Inv X pins σ H' { s with heap := h', gens := g', drawn := d', toks := t' } := by
  obtain ⟨m, ⟨o, es, ep, ho, r⟩, _⟩ := id I.loc
  obtain ⟨sl, hL⟩ := u.any ho I.free fun z => (hch _ z).2.1 rfl
  exact I.step (ch := ch) hch (fun b o hL hb hc e n => u.keep b o e n (fun z => (List.mem_cons.mp (I.stkSub b z)).elim hL hb) hc) (fun b o _ _ hc e n => u.any e n hc) (fun b o hc e n => u.free b o e n hc) (fun b o hc e => u.there b o e hc) u.tups u.frzs u.tbls (fun m' hm => by
    obtain ⟨o', es', ep', ho', r'⟩ := hm
    rw [ho] at ho'; cases ho'
    exact ⟨_, es', ep', hL, r'⟩) hok hg
/-- an untracked record of ours (an iterator) has turned -/
theorem Inv.turned {t' : Nat} {it : Addr} (I : Inv X pins σ H s) (k : ∀ b o, b ≠ it → s.heap.get? b = some o → h'.get? b = some o) (hn : H it = none) (hL : it ≠ X.env.locals)
    (h1 : it ∈ X.ex ∨ X.s_0.heap.objs.size ≤ it) (h2 : ∀ x c, X.env.cells.lookup x = some c → c ≠ it) (h3 : ∀ p ∈ X.pn ++ pins, p.1 ≠ it) : Inv X pins σ H { s with heap := h', toks := t' } := by
  have nit : ∀ b u, H b = some u → b ≠ it := fun b u e z => by rw [z, hn] at e; cases e
  refine I.step (g' := s.gens) (d' := s.drawn) (ch := [it]) (fun b hb => ?_) (fun b o _ _ hc e _ => k b o (fun z => hc (by simp [z])) e) (fun b o _ _ hc e _ => ⟨o.slots, k b o (fun z => hc (by simp [z])) e⟩) (fun _ _ _ _ n => n)
    (fun b o hc e => ⟨o, k b o (fun z => hc (by simp [z])) e⟩) (fun _ _ e => e) (fun _ _ _ e => e) (fun b ps e => ⟨#[], by rw [e]; simp⟩) (fun m hm => ?_) (fun b u e => ?_) I.bare
  · have e : b = it := by simpa using hb
    subst e
    exact ⟨h1, hL, h2, h3⟩
  · obtain ⟨o, es, ep, ho, r⟩ := hm
    exact ⟨o, es, ep, k _ o (Ne.symm hL) ho, r⟩
  · refine (I.hok b u e).stay (fun c v hc q => k c v ?_ q) (fun _ q => q) fun _ _ q => q
    rcases hc with z | z
    · rw [z]; exact nit b u e
    · exact nit c _ z
theorem Inv.tok (I : Inv X pins σ H s) (t : Nat) : Inv X pins σ H { s with toks := t } := I.un (h' := s.heap) (t' := t) Un.refl I.hok
/-- all objects kept -/
theorem Inv.kept {t' : Nat} (I : Inv X pins σ H s) (k : ∀ b u, s.heap.get? b = some u → h'.get? b = some u) : Inv X pins σ H { s with heap := h', toks := t' } := I.un (Un.kept k) (I.hok.kept k)
/-- a new object laid and tracked -/
theorem Inv.laid {a : Addr} {o : HO} {t' : Nat} (I : Inv X pins σ H s) (k : ∀ b u, s.heap.get? b = some u → h'.get? b = some u) (hp : s.heap.objs.size ≤ a) (new : ObjOk X.prog X.w (upd H a o) h' a o) :
    Inv X pins σ (upd H a o) { s with heap := h', toks := t' } := I.un (Un.laid k hp (I.hok.fresh hp)) (I.hok.laid k hp new)
/-- an object written -/
theorem Inv.write {x e : Addr} {o : HO} {t' : Nat} (I : Inv X pins σ H s) (mu : Mut (H x)) (he : e = x ∨ H e = some (.own x)) (k : ∀ b u, b ≠ e → s.heap.get? b = some u → h'.get? b = some u) (heo : ∃ u, h'.get? e = some u)
    (new : ObjOk X.prog X.w (upd H x o) h' x o) : Inv X pins σ (upd H x o) { s with heap := h', toks := t' } := I.un (Un.write mu he k heo) (I.hok.write mu he k heo new)
/-- forgetting slots, pins -/
theorem Inv.weak {σ' : List (Option V)} (I : Inv X pins σ H s) (hl : σ'.length = σ.length) (w : ∀ (i : Nat) v, σ'[i]? = some (some v) → σ[i]? = some (some v)) : Inv X pins σ' H s :=
  ⟨I.ok, I.os, I.bare, I.base, let ⟨m, hn, hl'⟩ := I.loc; ⟨m, hn, fun i x v e1 e2 e3 => hl' i x v e1 (w i v e2) e3⟩, I.cell, I.free, I.freeC, I.pin, I.hok, hl.trans I.len⟩
theorem Inv.pins_of {pins' : List (Addr × Obj)} (I : Inv X pins σ H s) (h : ∀ p ∈ pins', s.heap.get? p.1 = some p.2 ∧ H p.1 = none ∧ p.1 ≠ X.env.locals ∧ p.1 ∉ X.fs ∧ ∀ v, p.2.data ≠ .cell v) : Inv X pins' σ H s :=
  ⟨I.ok, I.os, I.bare, I.base, I.loc, I.cell, I.free, I.freeC, fun p hp => (List.mem_append.mp hp).elim (fun z => I.pin p (List.mem_append_left _ z)) (h p), I.hok, I.len⟩

theorem nodup_ix {N : List Str} (hN : N.Nodup) {i j : Nat} {x : Str} (a : N[i]? = some x) (b : N[j]? = some x) : i = j := by
  obtain ⟨h1, e1⟩ := List.getElem?_eq_some_iff.mp a
  obtain ⟨h2, e2⟩ := List.getElem?_eq_some_iff.mp b
  exact (List.getElem_inj hN).mp (e1.trans e2.symm)

/-- a name is stored; what changed -/
theorem store_ok2 {M : Model} {A : Around} {E : Value → Shared → Prop} {i : Nat} {x : Str} {v : V} {u : Value} {Q : Unit → Shared → Prop} (I : Inv X pins σ H s) (hN : X.N.Nodup) (hi : X.N[i]? = some x) (hx : Loc X.env.scope x) (r : RelV v u)
    (h : ∀ s', Inv X pins (σ.set i (some v)) H s' → (∃ a, Heap.SameBut a s.heap s'.heap ∧ (a = X.env.locals ∨ X.env.cells.lookup x = some a)) → Q () s') (hf : X.fn x = true ∨ X.env.scope.names.lookup x = some .local := by first | exact .inl rfl | exact .inr rfl | assumption) : wpAny M A (storeName X.env x u) Q E s := by
  obtain ⟨m, hn, hl⟩ := id I.loc
  have hcls : (X.env.scope.kind == .class || (X.env.scope.kind == .module && X.env.locals != X.env.globals)) = false := by rw [I.ok.kind]; rfl
  have hiσ : i < σ.length := by rw [I.len]; exact (List.getElem?_eq_some_iff.mp hi).1
  have cne := I.cne
  have tracked : ∀ {a : Addr} {h' : Heap}, (∃ o, s.heap.get? a = some o ∧ H a = none) → Heap.SameBut a s.heap h' → HOk X.prog X.w H h' := fun {a h'} ha hs b ob e => by
    obtain ⟨_, _, hfree⟩ := ha
    refine (I.hok b ob e).stay (fun c w' hc q => (hs.2 c ?_).trans q) (fun _ q => q) fun _ _ q => q
    rintro rfl
    rcases hc with rfl | hc
    · rw [hfree] at e; cases e
    · rw [hfree] at hc; cases hc
  rcases hx with hk | hk
  · refine wpAny_storeName_local hk hn (fun h' hn' hs => ?_) hcls
    obtain ⟨oL, _, _, hoL, _⟩ := id hn
    refine h _ ⟨I.ok, I.os, I.bare, ⟨fun b o e n hb hx => ?_, fun b o e n hb hx => ?_, I.base.free, fun b o e hx => ?_, I.base.tups, I.base.frzs, I.base.tbls⟩, ⟨_, hn', fun j y v' e1 e2 e3 => ?_⟩, fun y c e => ?_, I.free, I.freeC, fun p hp => ?_, tracked ⟨oL, hoL, I.free⟩ hs, by simpa using I.len⟩ ⟨_, hs, .inl rfl⟩
    · exact (hs.2 b (Nat.ne_of_lt (Nat.lt_of_lt_of_le (Heap.lt_size e) I.ok.above))).trans (I.base.keep b o e n hb hx)
    · obtain ⟨sl, e1⟩ := I.base.slot b o e n hb hx
      exact ⟨sl, (hs.2 b (Nat.ne_of_lt (Nat.lt_of_lt_of_le (Heap.lt_size e) I.ok.above))).trans e1⟩
    · obtain ⟨o', e1⟩ := I.base.there b o e hx
      exact ⟨o', (hs.2 b (Nat.ne_of_lt (Nat.lt_of_lt_of_le (Heap.lt_size e) I.ok.above))).trans e1⟩
    · by_cases hj : j = i
      · subst hj
        rw [hi] at e1; cases e1
        rw [List.getElem?_set_self hiσ] at e2
        cases e2
        exact ⟨u, r, .inl ⟨hk, by simp⟩⟩
      · rw [List.getElem?_set_ne (Ne.symm hj)] at e2
        obtain ⟨u', r', q⟩ := hl j y v' e1 e2 e3
        refine ⟨u', r', ?_⟩
        rcases q with ⟨k, e⟩ | ⟨k, c, e, z⟩
        · refine .inl ⟨k, ?_⟩
          have : y ≠ x := fun e => hj (nodup_ix hN e1 (e ▸ hi))
          simp [this, e]
        · exact .inr ⟨k, c, e, z.sameBut hs (cne y c e)⟩
    · obtain ⟨w', z⟩ := I.cell y c e
      exact ⟨w', z.sameBut hs (cne y c e)⟩
    · obtain ⟨e, n, ne, nf, d⟩ := I.pin p hp
      exact ⟨(hs.2 p.1 ne).trans e, n, ne, nf, d⟩
  · have hfn : X.fn x = true := by
      rcases hf with z | z
      · exact z
      · rw [z] at hk; cases hk
    obtain ⟨c, hc⟩ := I.ok.has x (.inl hk)
    obtain ⟨w', z⟩ := I.cell x c hc
    refine wpAny_storeName_cell I.ok.kind hk hc z (fun h' hc' hs => ?_)
    obtain ⟨oc, hoc, hocd⟩ := id z
    refine h { s with heap := h' } ⟨I.ok, I.os, I.bare, ⟨fun b o e n hb hx => ?_, fun b o e n hb hx => ?_, I.base.free, fun b o e hx => ?_, I.base.tups, I.base.frzs, I.base.tbls⟩, ⟨m, hn.sameBut hs (Ne.symm (cne x c hc)), fun j y v' e1 e2 e3 => ?_⟩, fun y c' e => ?_, I.free, I.freeC, fun p hp => ?_, tracked ⟨oc, hoc, I.freeC x c hc⟩ hs, by simpa using I.len⟩ ⟨c, hs, .inr hc⟩
    · exact (hs.2 b (Nat.ne_of_lt (Nat.lt_of_lt_of_le (Heap.lt_size e) (I.ok.cab x c hfn hc)))).trans (I.base.keep b o e n hb hx)
    · obtain ⟨sl, e1⟩ := I.base.slot b o e n hb hx
      exact ⟨sl, (hs.2 b (Nat.ne_of_lt (Nat.lt_of_lt_of_le (Heap.lt_size e) (I.ok.cab x c hfn hc)))).trans e1⟩
    · obtain ⟨o', e1⟩ := I.base.there b o e hx
      exact ⟨o', (hs.2 b (Nat.ne_of_lt (Nat.lt_of_lt_of_le (Heap.lt_size e) (I.ok.cab x c hfn hc)))).trans e1⟩
    · by_cases hj : j = i
      · subst hj
        rw [hi] at e1; cases e1
        rw [List.getElem?_set_self hiσ] at e2
        cases e2
        exact ⟨u, r, .inr ⟨.inl hk, c, hc, hc'⟩⟩
      · rw [List.getElem?_set_ne (Ne.symm hj)] at e2
        obtain ⟨u', r', q⟩ := hl j y v' e1 e2 e3
        refine ⟨u', r', ?_⟩
        rcases q with q | ⟨k, c', e, z'⟩
        · exact .inl q
        · refine .inr ⟨k, c', e, z'.sameBut hs ?_⟩
          rintro rfl
          exact hj (nodup_ix hN e1 (I.ok.inj _ _ _ e hc ▸ hi))
    · by_cases hcc : c' = c
      · subst hcc; exact ⟨_, hc'⟩
      · obtain ⟨w2, z2⟩ := I.cell y c' e
        exact ⟨w2, z2.sameBut hs hcc⟩
    · obtain ⟨e, n, ne, nf, d⟩ := I.pin p hp
      refine ⟨(hs.2 p.1 ?_).trans e, n, ne, nf, d⟩
      intro q
      rw [q, hoc] at e
      have q' : oc = p.2 := Option.some.inj e
      exact d w' (by rw [← q']; exact hocd)
theorem store_ok {M : Model} {A : Around} {E : Value → Shared → Prop} {i : Nat} {x : Str} {v : V} {u : Value} {Q : Unit → Shared → Prop} (I : Inv X pins σ H s) (hN : X.N.Nodup) (hi : X.N[i]? = some x) (hx : Loc X.env.scope x) (r : RelV v u)
    (h : ∀ s', Inv X pins (σ.set i (some v)) H s' → Q () s') (hf : X.fn x = true ∨ X.env.scope.names.lookup x = some .local := by first | exact .inl rfl | exact .inr rfl | assumption) : wpAny M A (storeName X.env x u) Q E s :=
  store_ok2 I hN hi hx r (fun s' I' _ => h s' I') hf
/-- behind a call or a block, the state as it is -/
theorem Inv.call' {s' : Shared} {ch : List Addr} (I : Inv X pins σ H s) (ho : s'.os = s.os) (u : Un (frs X.stack) ch H H' s.heap s'.heap) (hok : HOk X.prog X.w H' s'.heap) (hg : AllBare s'.gens)
    (hch : ∀ b ∈ ch, (b ∈ X.ex ∨ X.s_0.heap.objs.size ≤ b) ∧ b ≠ X.env.locals ∧ (∀ x c, X.env.cells.lookup x = some c → c ≠ b) ∧ ∀ p ∈ X.pn ++ pins, p.1 ≠ b) : Inv X pins σ H' s' := by
  obtain ⟨h', g', d', t', o'⟩ := s'
  have e : o' = s.os := ho
  subst e
  exact I.call (g' := g') (t' := t') (d' := d') u hok hg hch
end

/-! ### the judgements -/
/-- an exception: its class, its own dict's address (where it has one), the abstract heap behind it -/
abbrev XK := Value → Option Addr → Hp → Prop
abbrev St := List (Option V)
abbrev VK := V → Hp → Prop
/-- an expression's reading; a test's; an argument list's -/
abbrev TE := St → Hp → VK → Prop
abbrev TT := St → Hp → (Bool → Hp → Prop) → Prop
abbrev TA := St → Hp → (List V → Hp → Prop) → Prop
/-- what is wanted behind a statement -/
structure Ends where
  nx : St → Hp → Prop
  rt : VK
  bk : St → Hp → Prop := fun _ _ => False
  ct : St → Hp → Prop := fun _ _ => False
abbrev TS := Ends → St → Hp → Prop

def EP (X : Cx) (pins : List (Addr × Obj)) (σ : St) (Q : VK) (u : Value) (s' : Shared) : Prop := ∃ v H', Inv X pins σ H' s' ∧ RelV v u ∧ Q v H'
def TP (X : Cx) (pins : List (Addr × Obj)) (σ : St) (Q : Bool → Hp → Prop) (b : Bool) (s' : Shared) : Prop := ∃ H', Inv X pins σ H' s' ∧ Q b H'
def AP (X : Cx) (pins : List (Addr × Obj)) (σ : St) (Q : List V → Hp → Prop) (us : List Value) (s' : Shared) : Prop := ∃ vs H', Inv X pins σ H' s' ∧ Vals vs us ∧ Q vs H'
def SP (X : Cx) (pins : List (Addr × Obj)) (D : Ends) (f : Flow) (s' : Shared) : Prop :=
  match f with
  | .next => ∃ σ' H', Inv X pins σ' H' s' ∧ D.nx σ' H'
  | .brk => ∃ σ' H', Inv X pins σ' H' s' ∧ D.bk σ' H'
  | .cont => ∃ σ' H', Inv X pins σ' H' s' ∧ D.ct σ' H'
  | .ret u => ∃ v σ' H', Inv X pins σ' H' s' ∧ RelV v u ∧ D.rt v H'

def PE (X : Cx) (e : Expr) (t : TE) : Prop :=
  ∀ (pins : List (Addr × Obj)) (s : Shared) (σ : St) (H : Hp) (Q : VK), Inv X pins σ H s → t σ H Q → wpAny (model X.prog X.w) X.A (eval e X.env) (EP X pins σ Q) X.xe s
def PT (X : Cx) (e : Expr) (t : TT) : Prop :=
  ∀ (pins : List (Addr × Obj)) (s : Shared) (σ : St) (H : Hp) (Q : Bool → Hp → Prop), Inv X pins σ H s → t σ H Q → wpAny (model X.prog X.w) X.A (isTrue e X.env (eval e X.env)) (TP X pins σ Q) X.xe s
/-- a test whatever its 'whole' is (and, or) -/
def PW (X : Cx) (e : Expr) (t : TT) : Prop :=
  ∀ (whole : Sem Value) (pins : List (Addr × Obj)) (s : Shared) (σ : St) (H : Hp) (Q : Bool → Hp → Prop), Inv X pins σ H s → t σ H Q → wpAny (model X.prog X.w) X.A (isTrue e X.env whole) (TP X pins σ Q) X.xe s
theorem PW.pt {X : Cx} {e : Expr} {t : TT} (h : PW X e t) : PT X e t := h _
/-- an argument list (no star), from the left -/
def PA (X : Cx) (es : List Expr) (t : TA) : Prop :=
  ∀ (pos : Pos) (pins : List (Addr × Obj)) (s : Shared) (σ : St) (H : Hp) (Q : List V → Hp → Prop), Inv X pins σ H s → t σ H Q → wpAny (model X.prog X.w) X.A (spliced (backTo pos (starEach es X.env))) (AP X pins σ Q) X.xe s
def PS (X : Cx) (st : Stmt) (t : TS) : Prop :=
  ∀ (pins : List (Addr × Obj)) (s : Shared) (σ : St) (H : Hp) (D : Ends), Inv X pins σ H s → t D σ H → wpAny (model X.prog X.w) X.A (exec st X.env) (SP X pins D) X.xe s
def PSs (X : Cx) (st : List Stmt) (t : TS) : Prop :=
  ∀ (pins : List (Addr × Obj)) (s : Shared) (σ : St) (H : Hp) (D : Ends), Inv X pins σ H s → t D σ H → wpAny (model X.prog X.w) X.A (execs st X.env) (SP X pins D) X.xe s
/-- weaken the end -/
theorem thn {α : Type} {t : Sem α} {Q Q' : α → Shared → Prop} {M : Model} {A : Around} {E : Value → Shared → Prop} {s : Shared} (h : wpAny M A t Q E s) (hQ : ∀ a s, Q a s → Q' a s) : wpAny M A t Q' E s := wpAny_mono h hQ fun _ _ x => x
end L2

namespace L2
open PySem PySem.Spec PyProof.Rows
section
variable {X : Cx}


/-! ### names and constants -/
def tVar (i : Nat) : TE := fun σ H Q => ∃ v, σ[i]? = some (some v) ∧ Q v H
def tC (v : V) : TE := fun _ H Q => Q v H
theorem pe_var {i : Nat} {x : Str} {pos : Pos} (hN : X.N[i]? = some x) (hv : Vis X.env.scope x) (hd : (x == ("__debug__" : Str)) = false := by decide) (hcd : (x == ("__classdict__" : Str)) = false := by decide) : PE X (.Name x pos) (tVar i) := by
  intro pins s σ H Q I h
  obtain ⟨v, e, h⟩ := h
  obtain ⟨m, hn, hl⟩ := I.loc
  obtain ⟨u, r, l⟩ := hl i x v hN e hv
  have fin : EP X pins σ Q u s := ⟨v, H, I, r, h⟩
  rcases l with ⟨hk, hm⟩ | ⟨hk, c, hc, hcell⟩
  · exact wpAny_Name (wpAny_loadName_local I.ok.kind hk hn hm fin) hd
  · rcases hk with hk | hk
    · exact wpAny_Name (wpAny_loadName_cell I.ok.kind hk hc hcell fin) hd
    · exact wpAny_Name (wpAny_loadName_free I.ok.kind hk hc hcell fin hcd) hd
theorem pe_int {i j pos} : PE X (.Constant (.int i) j pos) (tC (.int i)) := fun _ _ _ H _ I h => wpAny_Constant_int ⟨.int i, H, I.tok _, ⟨_, rfl⟩, h⟩
theorem pe_bl {b j pos} : PE X (.Constant (.bool b) j pos) (tC (.bl b)) := fun _ _ _ H _ I h => Constant_bool ⟨.bl b, H, I, rfl, h⟩
theorem pe_non {j pos} : PE X (.Constant .none j pos) (tC .non) := fun _ _ _ H _ I h => Constant_none ⟨.non, H, I, rfl, h⟩

/-- a global name of the def -/
def Gl (X : Cx) (x : Str) : Prop := X.env.kindOf x = some .globalImplicit
theorem ld_glob {E : Value → Shared → Prop} {pins : List (Addr × Obj)} {s : Shared} {σ : St} {H : Hp} {x : Str} {u : Value} {pos : Pos} {Q : Value → Shared → Prop} (I : Inv X pins σ H s) (hg : Gl X x) (hm : X.mg x = some u) (h : Q u s)
    (hd : (x == ("__debug__" : Str)) = false := by decide) : wpAny (model X.prog X.w) X.A (eval (.Name x pos) X.env) Q E s :=
  Calls.Name_function_global I.ok.kind hg (Calls.loadGlobal_global (by rw [I.ok.glob]; exact I.mod.glob.keeps I.bk) hm h) hd
theorem ld_blt {E : Value → Shared → Prop} {pins : List (Addr × Obj)} {s : Shared} {σ : St} {H : Hp} {x : Str} {u : Value} {pos : Pos} {Q : Value → Shared → Prop} (I : Inv X pins σ H s) (hg : Gl X x) (hm : X.mg x = none) (hv : bootBuiltins x = some u) (h : Q u s)
    (hn : x ≠ "__name__" := by decide) (hd : (x == ("__debug__" : Str)) = false := by decide) : wpAny (model X.prog X.w) X.A (eval (.Name x pos) X.env) Q E s := by
  obtain ⟨mb, h1, h2⟩ := I.mod.blt
  exact Calls.Name_function_global I.ok.kind hg (Calls.loadGlobal_builtin (by rw [I.ok.glob]; exact I.mod.glob.keeps I.bk) hm (by rw [I.ok.blt]; exact h1.keeps I.bk) ((h2 x hn).trans hv) h) hd
/-- a module's constant, a class, a function, as a value -/
theorem pe_glob {x : Str} {v : V} {u : Value} {pos : Pos} (hg : Gl X x) (hm : X.mg x = some u) (r : RelV v u) (hd : (x == ("__debug__" : Str)) = false := by decide) : PE X (.Name x pos) (tC v) :=
  fun _ _ _ H _ I h => ld_glob I hg hm ⟨v, H, I, r, h⟩ hd

/-! ### arithmetic -/
/-- two ints -/
def t2I (ta tb : TE) (k : Int → Int → Hp → Prop) : St → Hp → Prop := fun σ H => ta σ H fun x H1 => tb σ H1 fun y H2 => ∃ i j, x = .int i ∧ y = .int j ∧ k i j H2
def tAdd (ta tb : TE) : TE := fun σ H Q => t2I ta tb (fun i j H2 => Q (.int (i + j)) H2) σ H
def tSub (ta tb : TE) : TE := fun σ H Q => t2I ta tb (fun i j H2 => Q (.int (i - j)) H2) σ H
/-- the left factor below 2^64 -/
def tMul (ta tb : TE) : TE := fun σ H Q => t2I ta tb (fun i j H2 => (-(2 ^ 64) < i ∧ i < 2 ^ 64) ∧ Q (.int (i * j)) H2) σ H
variable {a b : Expr} {ta tb : TE} {pos : Pos}

/-! ### comparisons -/
def PC (X : Cx) (op : CmpOp) (a b : Expr) (t : TE) : Prop :=
  ∀ (pins : List (Addr × Obj)) (s : Shared) (σ : St) (H : Hp) (Q : VK), Inv X pins σ H s → t σ H Q →
    wpAny (model X.prog X.w) X.A (eval a X.env) (fun v s₁ => wpAny (model X.prog X.w) X.A (eval b X.env) (fun u s₂ => wpAny (model X.prog X.w) X.A (compareOp op v u) (EP X pins σ Q) X.xe s₂) X.xe s₁) X.xe s
def tCmp (p : Int → Int → Bool) (ta tb : TE) : TE := fun σ H Q => t2I ta tb (fun i j H2 => Q (.bl (p i j)) H2) σ H
abbrev tLt : TE → TE → TE := tCmp fun i j => decide (i < j)
abbrev tLe : TE → TE → TE := tCmp fun i j => decide (i ≤ j)
abbrev tGt : TE → TE → TE := tCmp fun i j => decide (j < i)
abbrev tGe : TE → TE → TE := tCmp fun i j => decide (j ≤ i)
abbrev tEqI : TE → TE → TE := tCmp fun i j => decide (i = j)
abbrev tNeI : TE → TE → TE := tCmp fun i j => !decide (i = j)
/-- is None -/
def tIsN (ta : TE) : TE := fun σ H Q => ta σ H fun x H1 => Q (.bl (decide (x = .non))) H1
def tNotN (ta : TE) : TE := fun σ H Q => ta σ H fun x H1 => Q (.bl (!decide (x = .non))) H1
/-- a comparison as a value, as a test -/
def tB (t : TE) : TT := fun σ H Q => t σ H fun x H1 => ∃ c, x = .bl c ∧ Q c H1
/-- an expression whose value is a bool, as a test -/
theorem pt_val {e : Expr} {t : TE} (h : PE X e t) (he : ∀ whole, isTrue e X.env whole = (do let v ← whole; standAt e.pos; holding [v] (truthy v)) := by intro _; rfl) : PT X e (tB t) := by
  intro pins s σ H Q I hw
  refine isTrue_plain (thn (h pins s σ H _ I hw) fun v s1 ⟨x, H1, I1, r1, q1⟩ => ?_) (he _)
  obtain ⟨d, rfl, q⟩ := q1
  cases r1
  exact wpAny_truthy_bool ⟨H1, I1, q⟩

/-! ### and, or, not -/
variable {tA tB' : TT} {rest : List Expr}
def tAnd (t u : TT) : TT := fun σ H Q => t σ H fun c H1 => if c = true then u σ H1 Q else Q false H1
def tOr (t u : TT) : TT := fun σ H Q => t σ H fun c H1 => if c = true then Q true H1 else u σ H1 Q
def tNot (t : TT) : TT := fun σ H Q => t σ H fun c H1 => Q (!c) H1
theorem pw_and1 (ha : PT X a tA) : PW X (.BoolOp .And [a] pos) tA := by
  intro wh pins s σ H Q I h
  refine isTrue_and (thn (ha pins s σ H Q I h) fun c s1 e => ?_)
  cases c with
  | true => exact isTrue_and_nil e
  | false => exact e
theorem pw_and (ha : PT X a tA) (hb : PW X (.BoolOp .And (b :: rest) pos) tB') : PW X (.BoolOp .And (a :: b :: rest) pos) (tAnd tA tB') := by
  intro wh pins s σ H Q I h
  refine isTrue_and (thn (ha pins s σ H _ I h) fun c s1 ⟨H1, I1, q1⟩ => ?_)
  cases c with
  | true => exact hb wh pins s1 σ H1 Q I1 q1
  | false => exact ⟨H1, I1, q1⟩
theorem pt_not (ha : PT X a tA) : PT X (.UnaryOp .Not a pos) (tNot tA) := by
  intro pins s σ H Q I h
  exact isTrue_not (ha pins s σ H (fun c H1 => Q (!c) H1) I h)
/-- .. as values (bools) -/
def tAndV (ta tb : TE) : TE := fun σ H Q => ta σ H fun x H1 => ∃ c, x = .bl c ∧ if c = true then tb σ H1 Q else Q (.bl false) H1
def tOrV (ta tb : TE) : TE := fun σ H Q => ta σ H fun x H1 => ∃ c, x = .bl c ∧ if c = true then Q (.bl true) H1 else tb σ H1 Q
def tNotV (ta : TE) : TE := fun σ H Q => ta σ H fun x H1 => ∃ c, x = .bl c ∧ Q (.bl (!c)) H1
theorem pe_one {op} {t : TE} (h : PE X a t) : PE X (.BoolOp op [a] pos) t := fun pins s σ H Q I hw => BoolOp_one (h pins s σ H Q I hw)
theorem pe_and (ha : PE X a ta) (hb : PE X (.BoolOp .And (b :: rest) pos) tb) : PE X (.BoolOp .And (a :: b :: rest) pos) (tAndV ta tb) := by
  intro pins s σ H Q I h
  refine BoolOp_and (thn (ha pins s σ H _ I h) fun v s1 ⟨x, H1, I1, r1, q1⟩ => ?_)
  obtain ⟨c, rfl, q1⟩ := q1
  cases r1
  refine wpAny_truthy_bool ?_
  cases c with
  | true => exact hb pins s1 σ H1 Q I1 q1
  | false => exact ⟨.bl false, H1, I1, rfl, q1⟩
/-- a if t else b -/
def tIf (t : TT) (ta tb : TE) : TE := fun σ H Q => t σ H fun c H1 => if c = true then ta σ H1 Q else tb σ H1 Q
end
end L2

namespace L2
open PySem PySem.Spec PyProof.Rows

/-! ### a list, a tuple that is read: tracked, frozen, or an object of the module -/
def SqL (K : PySem.W.Frag) (H : Hp) (a : Addr) (xs : List V) : Prop :=
  Rd H a (.lst xs) ∨
    ∃ (o : Obj) (its : Array Value) (n : Nat), K.lookup a = some o ∧ o.cls = .type "list" ∧ o.dict = none ∧ o.data = .seq its n ∧ its.size ≤ sizeLine ∧ Vals xs its.toList
def SqT (K : PySem.W.Frag) (H : Hp) (a : Addr) (xs : List V) : Prop :=
  Rd H a (.tup xs) ∨
    ∃ (o : Obj) (its : Array Value) (n : Nat), K.lookup a = some o ∧ o.cls = .type "tuple" ∧ o.data = .seq its n ∧ its.size ≤ sizeLine ∧ Vals xs its.toList
def absV : Value → Option V
  | .none => some .non
  | .bool b => some (.bl b)
  | .int i _ => some (.int i)
  | .str x _ => some (.str x)
  | .bytes b _ => some (.byt b)
  | .float b _ => some (.flt b)
  | .ref a => some (.ref a)
  | .type n => some (.ty n)
  | _ => none
theorem RelV.abs {x : V} {u : Value} (r : RelV x u) : absV u = some x := by
  cases x with
  | non => cases r; rfl
  | bl _ => cases r; rfl
  | int _ => obtain ⟨t, rfl⟩ := r; rfl
  | str _ => obtain ⟨t, rfl⟩ := r; rfl
  | byt _ => obtain ⟨t, rfl⟩ := r; rfl
  | flt _ => obtain ⟨t, rfl⟩ := r; rfl
  | ref _ => cases r; rfl
  | ty _ => cases r; rfl
theorem RelV.inj {x y : V} {u : Value} (r : RelV x u) (q : RelV y u) : x = y := Option.some.inj (r.abs.symm.trans q.abs)
theorem Vals.inj : ∀ {xs ys : List V} {us : List Value}, Vals xs us → Vals ys us → xs = ys
  | _, _, _, .nil, .nil => rfl
  | _, _, _, .cons r t, .cons r' t' => by rw [r.inj r', Vals.inj t t']
section
variable {X : Cx} {pins : List (Addr × Obj)} {σ : St} {H : Hp} {s : Shared} {a : Addr} {xs ys : List V}
theorem SqL.of {K : PySem.W.Frag} (h : H a = some (.lst xs)) : SqL K H a xs := .inl (.inl h)
theorem SqT.of {K : PySem.W.Frag} (h : H a = some (.tup xs)) : SqT K H a xs := .inl (.inl h)
theorem Inv.list (I : Inv X pins σ H s) (h : SqL X.K H a xs) : ∃ its : List Value, Vals xs its ∧ PlainL s.heap a its.toArray ∧ xs.length ≤ sizeLine := by
  rcases h with h | ⟨o, its, n, hk, hc, hd, hs, hz, r⟩
  · obtain ⟨z, its, n, r, e⟩ := h.ok I.hok
    exact ⟨its, r, ⟨_, n, e, rfl, rfl, rfl⟩, z⟩
  · refine ⟨its.toList, r, ⟨o, n, I.kIn a o hk, hc, hd, by simpa using hs⟩, ?_⟩
    have e := r.length
    simp only [Array.length_toList] at e
    omega
theorem Inv.tuple (I : Inv X pins σ H s) (h : SqT X.K H a xs) : ∃ its : List Value, Vals xs its ∧ IsTup s.heap a its.toArray ∧ xs.length ≤ sizeLine := by
  rcases h with h | ⟨o, its, n, hk, hc, hs, hz, r⟩
  · obtain ⟨z, its, r, p⟩ := h.ok I.hok
    exact ⟨its, r, p, z⟩
  · refine ⟨its.toList, r, ⟨o, I.kIn a o hk, hc, n, by simpa using hs⟩, ?_⟩
    have e := r.length
    simp only [Array.length_toList] at e
    omega
theorem Inv.list_inj (I : Inv X pins σ H s) (h : SqL X.K H a xs) (h' : SqL X.K H a ys) : xs = ys := by
  obtain ⟨its, r, ⟨o, n, e, _, _, d⟩, _⟩ := I.list h
  obtain ⟨its', r', ⟨o', n', e', _, _, d'⟩, _⟩ := I.list h'
  rw [e] at e'; cases e'
  rw [d] at d'
  injection d' with d1 _
  have : its = its' := by simpa using congrArg Array.toList d1
  subst this
  exact r.inj r'
end

/-! ### another wish about exceptions -/
abbrev Cx.wish (X : Cx) (E : Value → Shared → Prop) : Cx := { X with xe := E }
/-- no exception leaves -/
abbrev Cx.nox (X : Cx) : Cx := X.wish fun _ _ => False
theorem Cx.Ok.wish {X : Cx} (ok : X.Ok) (E : Value → Shared → Prop) : (X.wish E).Ok :=
  ⟨ok.mod, ok.kind, ok.glob, ok.blt, ok.above, ok.inj, ok.has, ok.cab, ok.hd, ok.frames, ok.stk, ok.exf, ok.bs, ok.bsz, ok.noex, ok.exfs, ok.funs, ok.frf⟩
theorem Cx.Ok.unwish {X : Cx} {E : Value → Shared → Prop} (ok : (X.wish E).Ok) : X.Ok :=
  ⟨ok.mod, ok.kind, ok.glob, ok.blt, ok.above, ok.inj, ok.has, ok.cab, ok.hd, ok.frames, ok.stk, ok.exf, ok.bs, ok.bsz, ok.noex, ok.exfs, ok.funs, ok.frf⟩
section
variable {X : Cx} {pins : List (Addr × Obj)} {σ : St} {H : Hp} {s : Shared} {E : Value → Shared → Prop}
theorem Inv.wish (I : Inv X pins σ H s) (E : Value → Shared → Prop) : Inv (X.wish E) pins σ H s := ⟨I.ok.wish E, I.os, I.bare, I.base, I.loc, I.cell, I.free, I.freeC, I.pin, I.hok, I.len⟩
theorem Inv.unwish (I : Inv (X.wish E) pins σ H s) : Inv X pins σ H s := ⟨I.ok.unwish, I.os, I.bare, I.base, I.loc, I.cell, I.free, I.freeC, I.pin, I.hok, I.len⟩
theorem SP.unwish {D : Ends} {f : Flow} {s' : Shared} (h : SP (X.wish E) pins D f s') : SP X pins D f s' := by
  cases f with
  | next => obtain ⟨σ', H', I, q⟩ := h; exact ⟨σ', H', I.unwish, q⟩
  | brk => obtain ⟨σ', H', I, q⟩ := h; exact ⟨σ', H', I.unwish, q⟩
  | cont => obtain ⟨σ', H', I, q⟩ := h; exact ⟨σ', H', I.unwish, q⟩
  | ret u => obtain ⟨v, σ', H', I, r, q⟩ := h; exact ⟨v, σ', H', I.unwish, r, q⟩
theorem PSs.nox {st : List Stmt} {t : TS} (h : PSs X.nox st t) : PSs X st t := fun pins s σ H D I hw =>
  wpAny_mono (h pins s σ H D (I.wish _) hw) (fun _ _ q => q.unwish) fun _ _ z => False.elim z
end

/-! ### blocks and small statements -/
section
variable {X : Cx} {st : Stmt} {rest : List Stmt} {t u : TS} {e : Expr} {te : TE} {pos : Pos}
def tNext : TS := fun D σ H => D.nx σ H
def tSeq (t u : TS) : TS := fun D σ H => t { D with nx := u D } σ H
theorem pss_nil : PSs X [] tNext := fun _ _ σ H _ I h => wpAny_execs_nil ⟨σ, H, I, h⟩
theorem pss_cons (h1 : PS X st t) (h2 : PSs X rest u) : PSs X (st :: rest) (tSeq t u) := by
  intro pins s σ H D I h
  refine wpAny_execs_cons (thn (h1 pins s σ H { D with nx := u D } I h) fun f s1 q => ?_)
  cases f with
  | next =>
    obtain ⟨σ', H', I', q⟩ := q
    exact h2 pins s1 σ' H' D I' q
  | ret v => exact q
  | brk => exact q
  | cont => exact q
theorem pss_one (h1 : PS X st t) : PSs X [st] t := by
  intro pins s σ H D I h
  refine wpAny_execs_cons (thn (h1 pins s σ H D I h) fun f s1 q => ?_)
  cases f with
  | next => exact wpAny_execs_nil q
  | ret v => exact q
  | brk => exact q
  | cont => exact q
def tBreak : TS := fun D σ H => D.bk σ H
def tCont : TS := fun D σ H => D.ct σ H
/-- in a def's body nothing is shown -/
theorem Inv.quiet {pins : List (Addr × Obj)} {σ : St} {H : Hp} {s : Shared} (I : Inv X pins σ H s) : interactive X.env = false := by simp [interactive, I.ok.kind]
/-- an expression whose value is dropped -/
def tDrop (te : TE) : TS := fun D σ H => te σ H fun _ H1 => D.nx σ H1
theorem ps_expr (he : PE X e te) (hs : swapsWith e none pos.line X.env = pure false := by rfl) : PS X (.Expr e pos) (tDrop te) := by
  intro pins s σ H D I h
  exact wpAny_Expr_any (thn (he pins s σ H _ I h) fun v s1 ⟨x, H1, I1, r1, q1⟩ => ⟨σ, H1, I1, q1⟩) I.quiet hs
def tRet (te : TE) : TS := fun D σ H => te σ H D.rt
theorem ps_ret (he : PE X e te) : PS X (.Return (some e) pos) (tRet te) := by
  intro pins s σ H D I h
  exact wpAny_Return_some (thn (he pins s σ H _ I h) fun v s1 ⟨x, H1, I1, r1, q1⟩ => ⟨x, σ, H1, I1, r1, q1⟩)
def tRetN : TS := fun D _ H => D.rt .non H
def tIfS (c : TT) (t u : TS) : TS := fun D σ H => c σ H fun b H1 => if b = true then t D σ H1 else u D σ H1
theorem ps_if {c : Expr} {a b : List Stmt} {tc : TT} (hc : PT X c tc) (ha : PSs X a t) (hb : PSs X b u) : PS X (.If c a b pos) (tIfS tc t u) := by
  intro pins s σ H D I h
  refine wpAny_If (thn (hc pins s σ H _ I h) fun d s1 ⟨H1, I1, q1⟩ => ?_)
  cases d with
  | true => exact ha pins s1 σ H1 D I1 q1
  | false => exact hb pins s1 σ H1 D I1 q1
/-- code that the proof never comes to -/
def tNever : TS := fun _ _ _ => False
theorem ps_never : PS X st tNever := fun _ _ _ _ _ _ h => h.elim
end

/-! ### targets -/
abbrev TG := V → St → Hp → (St → Hp → Prop) → Prop
abbrev TGs := List V → St → Hp → (St → Hp → Prop) → Prop
def PG (X : Cx) (target : Expr) (t : TG) : Prop :=
  ∀ (pins : List (Addr × Obj)) (s : Shared) (σ : St) (H : Hp) (v : V) (u : Value) (Q : St → Hp → Prop), Inv X pins σ H s → RelV v u → t v σ H Q →
    wpAny (model X.prog X.w) X.A (assign target X.env u) (fun _ s' => ∃ σ' H', Inv X pins σ' H' s' ∧ Q σ' H') X.xe s
/-- several targets, one after another -/
def PGs (X : Cx) (ts : List Expr) (t : TGs) : Prop :=
  ∀ (pins : List (Addr × Obj)) (s : Shared) (σ : St) (H : Hp) (vs : List V) (us : List Value) (Q : St → Hp → Prop), Inv X pins σ H s → Vals vs us → t vs σ H Q →
    wpAny (model X.prog X.w) X.A (assignInOrder ((assignEach ts X.env).map (·.2)) us) (fun _ s' => ∃ σ' H', Inv X pins σ' H' s' ∧ Q σ' H') X.xe s
/-- o[i] = v, by values -/
abbrev TSet := V → V → V → Hp → (Hp → Prop) → Prop
def PSet (X : Cx) (t : TSet) : Prop :=
  ∀ (pins : List (Addr × Obj)) (s : Shared) (σ : St) (H : Hp) (o i v : V) (ov iv u : Value) (Q : Hp → Prop), Inv X pins σ H s → RelV o ov → RelV i iv → RelV v u → t o i v H Q →
    wpAny (model X.prog X.w) X.A (setItem ov iv u) (fun _ s' => ∃ H', Inv X pins σ H' s' ∧ Q H') X.xe s
/-- a op= b, by values -/
abbrev TIp := V → V → Hp → VK → Prop
def PIp (X : Cx) (op : Operator) (t : TIp) : Prop :=
  ∀ (pins : List (Addr × Obj)) (s : Shared) (σ : St) (H : Hp) (x y : V) (v u : Value) (Q : VK), Inv X pins σ H s → RelV x v → RelV y u → t x y H Q →
    wpAny (model X.prog X.w) X.A (inplaceOp op v u) (EP X pins σ Q) X.xe s
section
variable {X : Cx} {pos : Pos}
def gName (i : Nat) : TG := fun v σ H Q => Q (σ.set i (some v)) H
theorem pg_name {i : Nat} {x : Str} (hN : X.N.Nodup) (hi : X.N[i]? = some x) (hx : Loc X.env.scope x) (hf : X.fn x = true ∨ X.env.scope.names.lookup x = some .local := by first | exact .inl rfl | exact .inr rfl | assumption) : PG X (.Name x pos) (gName i) := by
  intro pins s σ H v u Q I r h
  exact wpAny_assign_Name (store_ok I hN hi hx r (fun s' I' => ⟨_, H, I', h⟩) hf)
def gNil : TGs := fun vs σ H Q => vs = [] ∧ Q σ H
def gCons (t : TG) (u : TGs) : TGs := fun vs σ H Q => ∃ v r, vs = v :: r ∧ t v σ H fun σ' H' => u r σ' H' Q
theorem pgs_nil : PGs X [] gNil := by
  intro pins s σ H vs us Q I r h
  obtain ⟨e, h⟩ := h
  subst e
  cases r
  exact assignInOrder_nil ⟨σ, H, I, h⟩
theorem pgs_cons {e : Expr} {es : List Expr} {t : TG} {u : TGs} (h1 : PG X e t) (h2 : PGs X es u)
    (hs : (assignEach (e :: es) X.env).map (·.2) = assign e X.env :: (assignEach es X.env).map (·.2) := by rfl) : PGs X (e :: es) (gCons t u) := by
  intro pins s σ H vs us Q I r h
  obtain ⟨v, vr, e1, h⟩ := h
  subst e1
  cases r with
  | cons r rr =>
    rw [hs]
    refine assignInOrder_cons (thn (h1 pins s σ H _ _ _ I r h) fun _ s1 ⟨σ1, H1, I1, q1⟩ => ?_)
    exact h2 pins s1 σ1 H1 _ _ Q I1 rr q1
/-- (a, b, ..) = a tuple of that length -/
def gTup (K : PySem.W.Frag) (n : Nat) (t : TGs) : TG := fun v σ H Q => ∃ a xs, v = .ref a ∧ SqT K H a xs ∧ xs.length = n ∧ t xs σ H Q
theorem pg_tup {es : List Expr} {k : Nat} {t : TGs} {n : Nat} (hc : X.calm = true) (h : PGs X es t)
    (hn : (assignEach es X.env).length = n := by rfl) (hst : (assignEach es X.env).findIdx? (·.1) = none := by rfl) : PG X (.Tuple es k pos) (gTup X.K n t) := by
  intro pins s σ H v u Q I r hw
  obtain ⟨a, xs, e1, hq, hl, hw⟩ := hw
  subst e1
  cases r
  obtain ⟨its, rv, ht, hz⟩ := I.tuple hq
  refine assign_Tuple_tuple (I.ok.hd hc) ht (by simp [hn, ← hl, rv.length]) hst fun h' hx => ?_
  have I1 : Inv X pins σ H { s with heap := h' } := I.kept (t' := s.toks) fun b o e => hx b o (Nat.ne_of_lt (Heap.lt_size e)) e
  exact h pins _ σ H xs _ Q I1 (by simpa using rv) hw
/-- o[i] = .. -/
def gSub (to ti : TE) (t : TSet) : TG := fun v σ H Q => to σ H fun o H1 => ti σ H1 fun i H2 => t o i v H2 fun H3 => Q σ H3
/-- target = value -/
def tAsg (te : TE) (g : TG) : TS := fun D σ H => te σ H fun x H1 => g x σ H1 D.nx
/-- name = value -/
theorem ps_set {i : Nat} {x : Str} {e : Expr} {te : TE} {pos' : Pos} (hN : X.N.Nodup) (hi : X.N[i]? = some x) (hx : Loc X.env.scope x) (he : PE X e te) (hs : swapsWith e (some (.Name x pos')) pos.line X.env = pure false := by rfl) (hf : X.fn x = true ∨ X.env.scope.names.lookup x = some .local := by first | exact .inl rfl | exact .inr rfl | assumption) :
    PS X (.Assign [.Name x pos'] e pos) (tAsg te (gName i)) := by
  intro pins s σ H D I h
  refine wpAny_Assign_Name (thn (he pins s σ H _ I h) fun v s1 ⟨y, H1, I1, r1, q1⟩ => ?_) hs
  exact store_ok I1 hN hi hx r1 (fun s2 I2 => ⟨_, H1, I2, q1⟩) hf
/-- a, b = x, y with plain local names: stored from the right; the pair itself is not tracked (the opening rows as in PyProof/Rows/TupAssign.lean:23) -/
def tPar (i j : Nat) (ta : TA) : TS := fun D σ H => ta σ H fun vs H1 => ∃ v w, vs = [v, w] ∧ D.nx ((σ.set i (some v)).set j (some w)) H1
/-- name op= e -/
def tAug (i : Nat) (te : TE) (ti : TIp) : TS := fun D σ H => ∃ x, σ[i]? = some (some x) ∧ te σ H fun y H1 => ti x y H1 fun z H2 => D.nx (σ.set i (some z)) H2
/-- o[i] op= e -/
def tAugS (to ti te : TE) (tget : V → V → Hp → VK → Prop) (tip : TIp) (tset : TSet) : TS := fun D σ H => to σ H fun o H1 => ti σ H1 fun i H2 => tget o i H2 fun x H3 => te σ H3 fun y H4 => tip x y H4 fun z H5 => tset o i z H5 fun H6 => D.nx σ H6
/-- o[i], by values -/
def PGet (X : Cx) (t : V → V → Hp → VK → Prop) : Prop :=
  ∀ (pins : List (Addr × Obj)) (s : Shared) (σ : St) (H : Hp) (o i : V) (ov iv : Value) (Q : VK), Inv X pins σ H s → RelV o ov → RelV i iv → t o i H Q →
    wpAny (model X.prog X.w) X.A (getItem ov iv) (EP X pins σ Q) X.xe s
theorem ps_augS {o i e : Expr} {to ti te : TE} {tget : V → V → Hp → VK → Prop} {tip : TIp} {tset : TSet} {op : Operator} {tpos : Pos} (ho : PE X o to) (hi : PE X i ti) (hg : PGet X tget) (he : PE X e te) (hp : PIp X op tip) (hs : PSet X tset)
    (ha : ∀ ov iv new, augStore i ov iv new = (do holding [new, ov, iv] (setItem ov iv new); release [new, ov, iv] []; pure .next) := by intros; rfl) : PS X (.AugAssign (.Subscript o i tpos) op e pos) (tAugS to ti te tget tip tset) := by
  intro pins s σ H D I h
  refine wpAny_AugAssign_SubscriptAny (thn (ho pins s σ H _ I h) fun ov s1 ⟨x1, H1, I1, r1, q1⟩ => ?_) ha
  refine thn (hi pins s1 σ H1 _ I1 q1) fun iv s2 ⟨x2, H2, I2, r2, q2⟩ => ?_
  refine thn (hg pins s2 σ H2 x1 x2 ov iv _ I2 r1 r2 q2) fun old s3 ⟨x3, H3, I3, r3, q3⟩ => ?_
  refine thn (he pins s3 σ H3 _ I3 q3) fun v s4 ⟨x4, H4, I4, r4, q4⟩ => ?_
  refine thn (hp pins s4 σ H4 x3 x4 old v _ I4 r3 r4 q4) fun new s5 ⟨x5, H5, I5, r5, q5⟩ => ?_
  exact thn (hs pins s5 σ H5 x1 x2 x5 ov iv new _ I5 r1 r2 r5 q5) fun _ s6 ⟨H6, I6, q6⟩ => ⟨σ, H6, I6, q6⟩
/-- ints -/
def ipI (f : Int → Int → Int) : TIp := fun x y H Q => ∃ i j, x = .int i ∧ y = .int j ∧ Q (.int (f i j)) H
theorem ip_add : PIp X .Add (ipI fun i j => i + j) := by
  intro pins s σ H x y v u Q I r1 r2 h
  obtain ⟨i, j, e1, e2, q⟩ := h
  subst e1; subst e2
  obtain ⟨t, rfl⟩ := r1
  obtain ⟨t', rfl⟩ := r2
  exact iadd_int ⟨.int _, H, I.tok _, ⟨_, rfl⟩, q⟩
end

/-! ### while -/
section
variable {X : Cx} {pos : Pos}
/-- the invariant W with its measure -/
def tWhile (c : TT) (tb : TS) : TS := fun D σ H => ∃ W : Nat → St → Hp → Prop, (∃ m, W m σ H) ∧ ∀ m σ H, W m σ H →
  c σ H fun b H1 => if b = true then ∃ N : St → Hp → Prop, (∀ σ' H', N σ' H' → ∃ m', m' < m ∧ W m' σ' H') ∧ tb { D with nx := N, ct := N, bk := D.nx } σ H1 else D.nx σ H1
theorem ps_while {c : Expr} {body : List Stmt} {tc : TT} {tb : TS} (hp : PassesOwn (model X.prog X.w) X.A X.env X.xe) (hc : PT X c tc) (hb : PSs X body tb) : PS X (.While c body [] pos) (tWhile tc tb) := by
  intro pins s σ H D I h
  obtain ⟨W, ⟨m0, w0⟩, turn⟩ := h
  refine wpAny_While (codeAny_whileLoop (fun n s' => ∃ σ' H', Inv X pins σ' H' s' ∧ W n σ' H') ?_ m0 ⟨σ, H, I, w0⟩)
  rintro n s1 ⟨σ1, H1, I1, w1⟩
  refine wpAny_passesOwn hp (thn (hc pins s1 σ1 H1 _ I1 (turn n σ1 H1 w1)) fun b s2 ⟨H2, I2, q2⟩ => ?_)
  cases b with
  | true =>
    obtain ⟨N, hN, q2⟩ := q2
    rw [if_pos rfl]
    refine wpAny_passesOwn hp (thn (hb pins s2 σ1 H2 _ I2 q2) fun f s3 q3 => ?_)
    cases f with
    | next =>
      obtain ⟨σ3, H3, I3, n3⟩ := q3
      obtain ⟨m', hm, w3⟩ := hN σ3 H3 n3
      exact ⟨m', hm, σ3, H3, I3, w3⟩
    | cont =>
      obtain ⟨σ3, H3, I3, n3⟩ := q3
      obtain ⟨m', hm, w3⟩ := hN σ3 H3 n3
      exact ⟨m', hm, σ3, H3, I3, w3⟩
    | brk => exact q3
    | ret v => exact q3
  | false =>
    rw [if_neg Bool.false_ne_true]
    exact wpAny_execs_nil ⟨σ1, H2, I2, q2⟩
end

/-! ### what a loop or a comprehension walks -/
/-- at turn i: it yields x (the heap may grow), or it stops -/
structure It where
  go : Nat → Hp → Prop
  yld : Nat → Hp → V → Hp → Prop
  stop : Nat → Hp → Prop
/-- the iterator's own objects may turn: they are not the frame's, not pinned, younger than the entry (or a comprehension's own) -/
def FpOk (X : Cx) (pins : List (Addr × Obj)) (H : Hp) (b : Addr) : Prop :=
  H b = none ∧ b ≠ X.env.locals ∧ b ∉ X.fs ∧ (b ∈ X.ex ∨ X.s_0.heap.objs.size ≤ b) ∧ (∀ x c, X.env.cells.lookup x = some c → c ≠ b) ∧ ∀ p ∈ X.pn ++ pins, p.1 ≠ b
theorem Inv.fpOk {X : Cx} {pins : List (Addr × Obj)} {σ : St} {H H' : Hp} {s : Shared} {b : Addr} (I : Inv X pins σ H s) (hb : s.heap.objs.size ≤ b) (hn : H' b = none) : FpOk X pins H' b := by
  refine ⟨hn, Nat.ne_of_gt (Nat.lt_of_lt_of_le I.lt hb), I.nofs hb, .inr (Nat.le_trans I.sz hb), fun x c e z => ?_, fun p hp z => ?_⟩
  · obtain ⟨v, q⟩ := I.cell x c e
    exact absurd (Nat.lt_of_lt_of_le q.lt (by rw [z]; exact hb)) (Nat.lt_irrefl _)
  · exact absurd (Nat.lt_of_lt_of_le (Heap.lt_size (I.pin p hp).1) (by rw [z]; exact hb)) (Nat.lt_irrefl _)
structure Turn (P : Program) (w : World) (K : PySem.W.Frag) (tg : Expr) (J : It) (fp : List Addr) (it : Addr) (tn : Nat → Heap → Prop) : Prop where
  mem : it ∈ fp
  obj : ∀ i h, tn i h → ∀ b ∈ fp, ∃ o, h.get? b = some o ∧ ∀ v, o.data ≠ .cell v
  keep : ∀ i h h', tn i h → (∀ b ∈ fp, ∀ o, h.get? b = some o → h'.get? b = some o) → tn i h'
  item : ∀ (X : Cx), X.prog = P → X.w = w → X.K = K → X.calm = true → ∀ (i : Nat) (pins : List (Addr × Obj)) (s : Shared) (σ : St) (H : Hp) (E : Value → Shared → Prop), Inv X pins σ H s → (∀ b ∈ fp, FpOk X pins H b) → tn i s.heap → J.go i H →
    wpAny (model P w) X.A (pyNext (.ref it)) (fun r s1 => ∃ u, r = some u ∧
      wpAny (model P w) X.A (letOwnedTupleGo tg (.ref it) u) (fun _ s2 => ∃ x H', Inv X pins σ H' s2 ∧ RelV x u ∧ J.yld i H x H' ∧ tn (i + 1) s2.heap ∧ ∀ b ∈ fp, H' b = none) E s1) E s
  done : ∀ (X : Cx), X.prog = P → X.w = w → X.K = K → X.calm = true → ∀ (i : Nat) (pins : List (Addr × Obj)) (s : Shared) (σ : St) (H : Hp) (E : Value → Shared → Prop), Inv X pins σ H s → (∀ b ∈ fp, FpOk X pins H b) → tn i s.heap → J.stop i H →
    wpAny (model P w) X.A (pyNext (.ref it)) (fun r s1 => r = none ∧ Inv X pins σ H s1) E s
  self : ∀ (A : Around) (i : Nat) (s : Shared) (Q : Value → Shared → Prop) (E : Value → Shared → Prop), tn i s.heap → Q (.ref it) s → wpAny (model P w) A (pyIter (.ref it)) Q E s
abbrev TI := St → Hp → (It → Hp → Prop) → Prop
/-- an iterator has come -/
def PIE (X : Cx) (pins : List (Addr × Obj)) (σ : St) (tg : Expr) (R : It → Hp → Prop) (itv : Value) (s2 : Shared) : Prop :=
  ∃ (it : Addr) (fp : List Addr) (tn : Nat → Heap → Prop) (J : It) (H' : Hp), itv = .ref it ∧ Inv X pins σ H' s2 ∧ Turn X.prog X.w X.K tg J fp it tn ∧ tn 0 s2.heap ∧ (∀ b ∈ fp, FpOk X pins H' b) ∧ R J H'
def PI (X : Cx) (tg iter : Expr) (wi : TI) : Prop :=
  ∀ (pins : List (Addr × Obj)) (s : Shared) (σ : St) (H : Hp) (R : It → Hp → Prop), Inv X pins σ H s → wi σ H R →
    wpAny (model X.prog X.w) X.A (eval iter X.env) (fun v s1 => wpAny (model X.prog X.w) X.A (pyIter v) (PIE X pins σ tg R) X.xe s1) X.xe s

/-- the step ahead of the store is nothing for an iterator that keeps no tuple -/
theorem go_of {M : Model} {A : Around} {E : Value → Shared → Prop} {s : Shared} {tg : Expr} {it : Addr} {u : Value} {o : Obj} {n : String} {vs : Array Value} {Q : Unit → Shared → Prop} (ho : s.heap.get? it = some o) (hc : o.cls = .type n) (hd : o.data = .fields vs)
    (hn : ["enumerate", "zip", "dict_itemiterator", "dict_reverseitemiterator", "odict_iterator", "itertools.zip_longest", "itertools.pairwise"].contains n = false) (hQ : Q () s) : wpAny M A (letOwnedTupleGo tg (.ref it) u) Q E s := by
  unfold letOwnedTupleGo
  cases tg <;> first
    | exact wpAny_pure hQ
    | (cases u <;> first
        | exact wpAny_pure hQ
        | (refine wpAny_bind (wpAny_load ho ?_)
           rw [hc, hd]
           show wpAny M A (if (["enumerate", "zip", "dict_itemiterator", "dict_reverseitemiterator", "odict_iterator", "itertools.zip_longest", "itertools.pairwise"].contains n && vs[0]? == some (rawInt _)) = true then _ else _) Q E s
           rw [if_neg (by intro h; rw [hn, Bool.false_and] at h; cases h)]
           exact wpAny_pure hQ))

/-- the list at a, as it stands at each turn (a loop may append to it) -/
def Itl (K : PySem.W.Frag) (a : Addr) : It :=
  ⟨fun i H => ∃ xs x, SqL K H a xs ∧ xs[i]? = some x, fun i H x H' => H' = H ∧ ∀ xs, SqL K H a xs → xs[i]? = some x, fun i H => ∃ xs, SqL K H a xs ∧ xs.length ≤ i⟩
def Itt (K : PySem.W.Frag) (a : Addr) : It :=
  ⟨fun i H => ∃ xs x, SqT K H a xs ∧ xs[i]? = some x, fun i H x H' => H' = H ∧ ∀ xs, SqT K H a xs → xs[i]? = some x, fun i H => ∃ xs, SqT K H a xs ∧ xs.length ≤ i⟩
/-- lo, lo + 1, .. (n of them) -/
def Itr (lo : Int) (n : Nat) : It := ⟨fun i _ => i < n, fun i H x H' => H' = H ∧ x = .int (lo + i), fun i _ => n ≤ i⟩
theorem turn_list {P : Program} {w : World} {K : PySem.W.Frag} {tg : Expr} (a it : Addr) : Turn P w K tg (Itl K a) [it] it (fun i h => h.IsListIter it a i) where
  mem := by simp
  obj := fun i h st b hb => by
    have e : b = it := by simpa using hb
    subst e
    obtain ⟨o, e, c, d⟩ := st
    exact ⟨o, e, fun v z => by rw [d] at z; cases z⟩
  keep := fun i h h' st k => st.at fun o e => k it (by simp) o e
  item := by
    intro X hP hw hK hc i pins s σ H E I hf st hg
    subst hP hw hK
    obtain ⟨xs, x, hq, hx⟩ := hg
    obtain ⟨its, rv, p, hz⟩ := I.list hq
    obtain ⟨u, hu, ru⟩ := rv.get hx
    obtain ⟨f0, f1, f2, f3, f4, f5⟩ := hf it (by simp)
    refine wpAny_pyNext_list_item st p.isList (x := u) (by simpa using hu) fun h' st' sb => ?_
    have I1 : Inv X pins σ H { s with heap := h' } := I.turned (t' := s.toks) (fun b o hb e => (sb.2 b hb).trans e) f0 f1 f3 f4 f5
    obtain ⟨o, e, c, d⟩ := id st'
    exact ⟨u, rfl, go_of (s := { s with heap := h' }) e c d (by decide) ⟨x, H, I1, ru, ⟨rfl, fun ys hy => by rw [I.list_inj hy hq]; exact hx⟩, st', fun b hb => (hf b hb).1⟩⟩
  done := by
    intro X hP hw hK hc i pins s σ H E I hf st hg
    subst hP hw hK
    obtain ⟨xs, hq, hx⟩ := hg
    obtain ⟨its, rv, p, hz⟩ := I.list hq
    obtain ⟨f0, f1, f2, f3, f4, f5⟩ := hf it (by simp)
    have hl := rv.length
    exact wpAny_pyNext_list_end (I.ok.hd hc) st p.isList (by simp; omega) fun h' eb => ⟨rfl, I.turned (t' := s.toks) (fun b o hb e => eb b o hb e) f0 f1 f3 f4 f5⟩
  self := fun _ _ _ _ _ st h => wpAny_pyIter_listiter st h
theorem turn_range {P : Program} {w : World} {K : PySem.W.Frag} {tg : Expr} (it : Addr) (lo : Int) (n : Nat) : Turn P w K tg (Itr lo n) [it] it (fun i h => IsRangeIter h it (lo + (i : Nat) * 1) ((n : Int) - (i : Nat)) 1) where
  mem := by simp
  obj := fun i h st b hb => by
    have e : b = it := by simpa using hb
    subst e
    exact ⟨_, st, fun v z => by
      have z' : Data.fields _ = Data.cell v := z
      cases z'⟩
  keep := fun i h h' st k => k it (by simp) _ st
  item := by
    intro X hP hw hK hc i pins s σ H E I hf st hg
    subst hP hw hK
    obtain ⟨f0, f1, f2, f3, f4, f5⟩ := hf it (by simp)
    have W := Walks.range (prog := X.prog) (w := X.w) (I.ok.hd hc) it lo 1 n
    refine W.item i s _ _ hg st fun v h' tk hv st' kk => ?_
    obtain ⟨t, rfl⟩ := hv
    have I1 : Inv X pins σ H { s with heap := h', toks := tk } := I.turned (fun b o hb e => kk b o (by simpa using hb) e) f0 f1 f3 f4 f5
    refine ⟨_, rfl, go_of (s := { s with heap := h', toks := tk }) (n := "range_iterator") st' rfl rfl (by decide) ⟨.int (lo + i), H, I1, ⟨t, ?_⟩, ⟨rfl, rfl⟩, st', fun b hb => (hf b hb).1⟩⟩
    rw [Int.mul_one]
  done := by
    intro X hP hw hK hc i pins s σ H E I hf st hg
    subst hP hw hK
    obtain ⟨f0, f1, f2, f3, f4, f5⟩ := hf it (by simp)
    exact wpAny_pyNext_range_end (I.ok.hd hc) st (by have : n ≤ i := hg; omega) fun h' eb => ⟨rfl, I.turned (t' := s.toks) (fun b o hb e => eb b o hb e) f0 f1 f3 f4 f5⟩
  self := fun _ _ _ _ _ st h => wpAny_pyIter_rangeiter st h
end L2

namespace L2
open PySem PySem.Spec PyProof.Rows
section
variable {X : Cx} {tg : Expr}
def iList (K : PySem.W.Frag) (tl : TE) : TI := fun σ H R => tl σ H fun x H1 => ∃ a, x = .ref a ∧ (∃ xs, SqL K H1 a xs) ∧ R (Itl K a) H1
def iTup (K : PySem.W.Frag) (tl : TE) : TI := fun σ H R => tl σ H fun x H1 => ∃ a, x = .ref a ∧ (∃ xs, SqT K H1 a xs) ∧ R (Itt K a) H1
theorem pi_list {l : Expr} {tl : TE} (hl : PE X l tl) : PI X tg l (iList X.K tl) := by
  intro pins s σ H R I h
  refine thn (hl pins s σ H _ I h) fun v s1 ⟨x, H1, I1, r1, q1⟩ => ?_
  obtain ⟨a, e, ⟨xs, hq⟩, q⟩ := q1
  subst e
  cases r1
  obtain ⟨its, rv, p, hz⟩ := I1.list hq
  refine wpAny_pyIter_list p.isList ?_
  refine ⟨s1.heap.objs.size, [s1.heap.objs.size], _, _, H1, rfl, I1.kept (t' := s1.toks) fun b o e => Heap.get?_push_of_some _ e, turn_list a _, ⟨_, Heap.get?_push_size _ rfl, rfl, rfl⟩, fun b hb => ?_, q⟩
  have e : b = s1.heap.objs.size := by simpa using hb
  subst e
  exact I1.fpOk (Nat.le_refl _) (I1.hok.fresh (Nat.le_refl _))
/-- a range object just made, walked -/
theorem range_it {pins : List (Addr × Obj)} {σ : St} {H : Hp} {s : Shared} {R : It → Hp → Prop} {E : Value → Shared → Prop} {lo hi : Int} {t u v : Tok} {tk : Nat} (I : Inv X pins σ H s) (h1 : -(2 ^ 62) ≤ lo) (h2 : lo < 2 ^ 62) (h3 : -(2 ^ 62) ≤ hi) (h4 : hi < 2 ^ 62)
    (q : R (Itr lo (hi - lo).toNat) H) : wpAny (model X.prog X.w) X.A (pyIter (.ref s.heap.objs.size)) (PIE X pins σ tg R) E { s with heap := s.heap.push { cls := .type "range", data := .fields #[.int lo t, .int hi u, .int 1 v] }, toks := tk } := by
  refine wpAny_pyIter_range (IsRange.new ..) (small_one h1 h2 h3 h4) ?_
  have I1 : Inv X pins σ H { s with heap := s.heap.push { cls := .type "range", data := .fields #[.int lo t, .int hi u, .int 1 v] }, toks := tk } := I.kept fun b o e => Heap.get?_push_of_some _ e
  refine ⟨(s.heap.push { cls := .type "range", data := .fields #[.int lo t, .int hi u, .int 1 v] }).objs.size, [(s.heap.push { cls := .type "range", data := .fields #[.int lo t, .int hi u, .int 1 v] }).objs.size], _, _, H, rfl,
    I1.kept (t' := tk) fun b o e => Heap.get?_push_of_some _ e, turn_range _ lo (hi - lo).toNat, ?_, fun b hb => ?_, q⟩
  · have e1 : lo + ((0 : Nat) : Int) * 1 = lo := by simp
    have e2 : (((hi - lo).toNat : Nat) : Int) - ((0 : Nat) : Int) = Builtin.Range.rangeSize lo hi 1 := by rw [rangeSize_one]; split <;> omega
    show IsRangeIter _ _ (lo + ((0 : Nat) : Int) * 1) ((((hi - lo).toNat : Nat) : Int) - ((0 : Nat) : Int)) 1
    rw [e1, e2]
    exact Heap.get?_push_size _ rfl
  · have e : b = (s.heap.push { cls := .type "range", data := .fields #[.int lo t, .int hi u, .int 1 v] }).objs.size := by simpa using hb
    subst e
    exact I1.fpOk (Nat.le_refl _) (I1.hok.fresh (Nat.le_refl _))
def iRng1 (ta : TA) : TI := fun σ H R => ta σ H fun vs H1 => ∃ j : Int, vs = [.int j] ∧ -(2 ^ 62) ≤ j ∧ j < 2 ^ 62 ∧ R (Itr 0 j.toNat) H1
def iRng2 (ta : TA) : TI := fun σ H R => ta σ H fun vs H1 => ∃ i j : Int, vs = [.int i, .int j] ∧ (-(2 ^ 62) ≤ i ∧ i < 2 ^ 62 ∧ -(2 ^ 62) ≤ j ∧ j < 2 ^ 62) ∧ R (Itr i (j - i).toNat) H1
theorem pi_range1 {a : Expr} {ta : TA} {p pos : Pos} (hg : Gl X "range") (hm : X.mg "range" = none) (ha : PA X [a] ta) (hs : starEach [a] X.env = [(false, eval a X.env)] := by rfl) : PI X tg (.Call (.Name "range" p) [a] [] pos) (iRng1 ta) := by
  intro pins s σ H R I h
  refine Call_ (ld_blt I hg hm boot_range (PyProof.Rows.callWith_type1 (thn (ha pos pins s σ H _ I h) fun us s1 ⟨vs, H1, I1, r1, q1⟩ => ?_) hs rfl))
  obtain ⟨j, e, q1, q2, q⟩ := q1
  subst e
  cases r1 with
  | cons r rr =>
    cases rr
    obtain ⟨t, rfl⟩ := r
    exact call_range_1 (range_it I1 (by omega) (by omega) q1 q2 (by simpa using q))

/-! ### for -/
/-- W: the invariant by the turn and a measure; N: what the body is to reach -/
def tFor (wi : TI) (g : TG) (tb : TS) : TS := fun D σ H => wi σ H fun J H1 => ∃ W : Nat → Nat → St → Hp → Prop, (∃ m, W 0 m σ H1) ∧ ∀ i m σ H, W i m σ H →
  (J.stop i H ∧ D.nx σ H) ∨ (J.go i H ∧ ∃ N : St → Hp → Prop, (∀ σ' H', N σ' H' → ∃ m', m' < m ∧ W (i + 1) m' σ' H') ∧ ∀ x H', J.yld i H x H' → g x σ H' fun σ2 H2 => tb { D with nx := N, ct := N, bk := D.nx } σ2 H2)
/-- the records at fp as they stand -/
def pinsAt (fp : List Addr) (h : Heap) : List (Addr × Obj) := fp.filterMap fun b => (h.get? b).map fun o => (b, o)
theorem mem_pinsAt {fp : List Addr} {h : Heap} {b : Addr} {o : Obj} (hb : b ∈ fp) (e : h.get? b = some o) : (b, o) ∈ pinsAt fp h := List.mem_filterMap.mpr ⟨b, hb, by rw [e]; rfl⟩
theorem of_pinsAt {fp : List Addr} {h : Heap} {p : Addr × Obj} (hp : p ∈ pinsAt fp h) : p.1 ∈ fp ∧ h.get? p.1 = some p.2 := by
  obtain ⟨b, hb, e⟩ := List.mem_filterMap.mp hp
  cases q : h.get? b with
  | none => rw [q] at e; cases e
  | some o =>
    rw [q] at e
    have e' : (b, o) = p := Option.some.inj e
    subst e'
    exact ⟨hb, q⟩
theorem Inv.pinned {pins : List (Addr × Obj)} {σ : St} {H : Hp} {s : Shared} {fp : List Addr} (I : Inv X pins σ H s) (hf : ∀ b ∈ fp, FpOk X pins H b) (ho : ∀ b ∈ fp, ∃ o, s.heap.get? b = some o ∧ ∀ v, o.data ≠ .cell v) : Inv X (pins ++ pinsAt fp s.heap) σ H s :=
  I.pins_of fun p hp => (List.mem_append.mp hp).elim (fun z => I.pin p (List.mem_append_right _ z)) fun z => by
    obtain ⟨hb, e⟩ := of_pinsAt z
    obtain ⟨f0, f1, f2, _⟩ := hf p.1 hb
    obtain ⟨o, e', d⟩ := ho p.1 hb
    rw [e] at e'; cases e'
    exact ⟨e, f0, f1, f2, d⟩
theorem Inv.unpinned {pins pl : List (Addr × Obj)} {σ : St} {H : Hp} {s : Shared} (I : Inv X (pins ++ pl) σ H s) : Inv X pins σ H s := I.pins_of fun p hp => I.pin p (List.mem_append_right _ (List.mem_append_left _ hp))
theorem ps_for {iter : Expr} {body : List Stmt} {wi : TI} {g : TG} {tb : TS} {pos : Pos} (hp : PassesOwn (model X.prog X.w) X.A X.env X.xe) (hc : X.calm = true) (hi : PI X tg iter wi) (hg : PG X tg g) (hb : PSs X body tb)
    (hs : ∀ x, foldedSetIterable iter X.env x = pure x := by intro _; rfl) : PS X (.For tg iter body [] pos) (tFor wi g tb) := by
  intro pins s σ H D I h
  refine wpAny_For (thn (hi pins s σ H _ I h) fun v s1 h1 => thn h1 fun itv s2 h2 => ?_) hs
  obtain ⟨it, fp, tn, J, H2, e, I2, T, st2, f2, W, ⟨m0, w0⟩, turn⟩ := h2
  subst e
  -- what stays true of the iterator's objects through the loop
  have stat : ∀ {H' : Hp}, (∀ b ∈ fp, H' b = none) → ∀ b ∈ fp, FpOk X pins H' b := fun hn b hb => ⟨hn b hb, (f2 b hb).2⟩
  refine codeAny_forLoop_any (fun n s' => ∃ i σ' H', Inv X pins σ' H' s' ∧ tn i s'.heap ∧ (∀ b ∈ fp, H' b = none) ∧ W i n σ' H') ?_ m0 ⟨0, σ, H2, I2, st2, fun b hb => (f2 b hb).1, w0⟩
  rintro n s3 ⟨i, σ3, H3, I3, st3, fr3, w3⟩
  rcases turn i n σ3 H3 w3 with ⟨stop, qn⟩ | ⟨go, N, hN, step⟩
  · refine wpAny_passesOwn hp (thn (T.done X rfl rfl rfl hc i pins s3 σ3 H3 X.xe I3 (stat fr3) st3 stop) fun r s4 ⟨hr, I4⟩ => ?_)
    subst hr
    exact wpAny_execs_nil ⟨σ3, H3, I4, qn⟩
  · refine wpAny_passesOwn hp (thn (T.item X rfl rfl rfl hc i pins s3 σ3 H3 X.xe I3 (stat fr3) st3 go) fun r s4 ⟨u, hr, h4⟩ => ?_)
    subst hr
    refine wpAny_passesOwn hp (thn h4 fun _ s5 ⟨x, H5, I5, r5, y5, st5, fr5⟩ => ?_)
    have I5' := I5.pinned (stat fr5) (T.obj _ _ st5)
    refine wpAny_passesOwn hp (thn (hg _ s5 σ3 H5 x u _ I5' r5 (step x H5 y5)) fun _ s6 ⟨σ6, H6, I6, q6⟩ => ?_)
    refine wpAny_passesOwn hp (thn (hb _ s6 σ6 H6 _ I6 q6) fun f s7 q7 => ?_)
    have again : ∀ {σ7 : St} {H7 : Hp}, Inv X (pins ++ pinsAt fp s5.heap) σ7 H7 s7 → N σ7 H7 → ∃ m, m < n ∧ ∃ i σ' H', Inv X pins σ' H' s7 ∧ tn i s7.heap ∧ (∀ b ∈ fp, H' b = none) ∧ W i m σ' H' := fun {σ7 H7} I7 n7 => by
      obtain ⟨m', hm, w7⟩ := hN σ7 H7 n7
      refine ⟨m', hm, i + 1, σ7, H7, I7.unpinned, T.keep _ _ _ st5 fun b hb o e => (I7.pin (b, o) (List.mem_append_right _ (List.mem_append_right _ (mem_pinsAt hb e)))).1, fun b hb => ?_, w7⟩
      obtain ⟨o, e, d⟩ := T.obj _ _ st5 b hb
      exact (I7.pin (b, o) (List.mem_append_right _ (List.mem_append_right _ (mem_pinsAt hb e)))).2.1
    cases f with
    | next => obtain ⟨σ7, H7, I7, n7⟩ := q7; exact again I7 n7
    | cont => obtain ⟨σ7, H7, I7, n7⟩ := q7; exact again I7 n7
    | brk => obtain ⟨σ7, H7, I7, q7⟩ := q7; exact ⟨σ7, H7, I7.unpinned, q7⟩
    | ret v => obtain ⟨x7, σ7, H7, I7, r7, q7⟩ := q7; exact ⟨x7, σ7, H7, I7.unpinned, r7, q7⟩
end

/-! ### the forms one uses -/
/-- over a list that the body leaves as it is -/
theorem for_list {K : PySem.W.Frag} {a : Addr} {xs : List V} {g : TG} {tb : TS} {D : Ends} {σ : St} {H : Hp} (Pv : Nat → St → Hp → Prop) (h0 : Pv 0 σ H) (hl : ∀ i σ H, i ≤ xs.length → Pv i σ H → SqL K H a xs)
    (hs : ∀ i x σ H, xs[i]? = some x → Pv i σ H → g x σ H fun σ2 H2 => tb { D with nx := Pv (i + 1), ct := Pv (i + 1), bk := D.nx } σ2 H2) (hd : ∀ σ H, Pv xs.length σ H → D.nx σ H) :
    ∃ W : Nat → Nat → St → Hp → Prop, (∃ m, W 0 m σ H) ∧ ∀ i m σ H, W i m σ H →
      ((Itl K a).stop i H ∧ D.nx σ H) ∨ ((Itl K a).go i H ∧ ∃ N : St → Hp → Prop, (∀ σ' H', N σ' H' → ∃ m', m' < m ∧ W (i + 1) m' σ' H') ∧ ∀ x H', (Itl K a).yld i H x H' → g x σ H' fun σ2 H2 => tb { D with nx := N, ct := N, bk := D.nx } σ2 H2) := by
  refine ⟨fun i m σ H => m = xs.length - i ∧ i ≤ xs.length ∧ Pv i σ H, ⟨xs.length, by simp, Nat.zero_le _, h0⟩, ?_⟩
  rintro i m σ H ⟨rfl, hi, p⟩
  have q := hl i σ H hi p
  by_cases hlt : i < xs.length
  · refine .inr ⟨⟨xs, xs[i], q, by simp [hlt]⟩, Pv (i + 1), fun σ' H' p' => ⟨xs.length - (i + 1), by omega, rfl, hlt, p'⟩, fun x H' y => ?_⟩
    obtain ⟨e, y⟩ := y
    subst e
    exact hs i x σ _ (y xs q) p
  · have e : i = xs.length := by omega
    subst e
    exact .inl ⟨⟨xs, q, Nat.le_refl _⟩, hd σ H p⟩
theorem for_range {lo : Int} {n : Nat} {g : TG} {tb : TS} {D : Ends} {σ : St} {H : Hp} (Pv : Nat → St → Hp → Prop) (h0 : Pv 0 σ H)
    (hs : ∀ i σ H, i < n → Pv i σ H → g (.int (lo + i)) σ H fun σ2 H2 => tb { D with nx := Pv (i + 1), ct := Pv (i + 1), bk := D.nx } σ2 H2) (hd : ∀ σ H, Pv n σ H → D.nx σ H) :
    ∃ W : Nat → Nat → St → Hp → Prop, (∃ m, W 0 m σ H) ∧ ∀ i m σ H, W i m σ H →
      ((Itr lo n).stop i H ∧ D.nx σ H) ∨ ((Itr lo n).go i H ∧ ∃ N : St → Hp → Prop, (∀ σ' H', N σ' H' → ∃ m', m' < m ∧ W (i + 1) m' σ' H') ∧ ∀ x H', (Itr lo n).yld i H x H' → g x σ H' fun σ2 H2 => tb { D with nx := N, ct := N, bk := D.nx } σ2 H2) := by
  refine ⟨fun i m σ H => m = n - i ∧ i ≤ n ∧ Pv i σ H, ⟨n, by simp, Nat.zero_le _, h0⟩, ?_⟩
  rintro i m σ H ⟨rfl, hi, p⟩
  by_cases hlt : i < n
  · refine .inr ⟨hlt, Pv (i + 1), fun σ' H' p' => ⟨n - (i + 1), by omega, rfl, hlt, p'⟩, fun x H' y => ?_⟩
    obtain ⟨e, y⟩ := y
    subst e y
    exact hs i σ _ hlt p
  · have e : i = n := by omega
    subst e
    exact .inl ⟨Nat.le_refl _, hd σ H p⟩
end L2

namespace L2
open PySem PySem.Spec PyProof.Rows

abbrev R2 := V → V → Hp → VK → Prop
/-- a two-place operation on values: f is binaryOp op, inplaceOp op or compareOp op -/
def OpR (X : Cx) (f : Value → Value → Sem Value) (r : R2) : Prop :=
  ∀ (pins : List (Addr × Obj)) (s : Shared) (σ : St) (H : Hp) (x y : V) (v u : Value) (Q : VK), Inv X pins σ H s → RelV x v → RelV y u → r x y H Q →
    wpAny (model X.prog X.w) X.A (f v u) (EP X pins σ Q) X.xe s
/-- a one-place operation -/
def UnR (X : Cx) (f : Value → Sem Value) (r : V → Hp → VK → Prop) : Prop :=
  ∀ (pins : List (Addr × Obj)) (s : Shared) (σ : St) (H : Hp) (x : V) (v : Value) (Q : VK), Inv X pins σ H s → RelV x v → r x H Q →
    wpAny (model X.prog X.w) X.A (f v) (EP X pins σ Q) X.xe s
/-- a call of a value that is known (a builtin, a type) with values -/
def CallR (X : Cx) (f : Value) (r : List V → Hp → VK → Prop) : Prop :=
  ∀ (pins : List (Addr × Obj)) (s : Shared) (σ : St) (H : Hp) (xs : List V) (us : List Value) (Q : VK), Inv X pins σ H s → Vals xs us → r xs H Q →
    wpAny (model X.prog X.w) X.A (call f us) (EP X pins σ Q) X.xe s
/-- a value's truth -/
def TruR (X : Cx) (r : V → Hp → (Bool → Hp → Prop) → Prop) : Prop :=
  ∀ (pins : List (Addr × Obj)) (s : Shared) (σ : St) (H : Hp) (x : V) (v : Value) (Q : Bool → Hp → Prop), Inv X pins σ H s → RelV x v → r x H Q →
    wpAny (model X.prog X.w) X.A (truthy v) (TP X pins σ Q) X.xe s

def tOp (r : R2) (ta tb : TE) : TE := fun σ H Q => ta σ H fun x H1 => tb σ H1 fun y H2 => r x y H2 Q
def tUn (r : V → Hp → VK → Prop) (ta : TE) : TE := fun σ H Q => ta σ H fun x H1 => r x H1 Q
/-- ints in, under C, and a value out -/
def rI (C : Int → Int → Prop) (g : Int → Int → V) : R2 := fun x y H Q => ∃ i j, x = .int i ∧ y = .int j ∧ C i j ∧ Q (g i j) H
def rI0 (g : Int → Int → V) : R2 := fun x y H Q => ∃ i j, x = .int i ∧ y = .int j ∧ Q (g i j) H
def rU (g : Int → V) : V → Hp → VK → Prop := fun x H Q => ∃ i, x = .int i ∧ Q (g i) H

section
variable {X : Cx} {a b c : Expr} {ta tb tc : TE} {pos : Pos}

theorem binT (ha : PE X a ta) (hb : PE X b tb) {pins : List (Addr × Obj)} {s : Shared} {σ : St} {H : Hp} {R : V → V → Hp → Prop} (I : Inv X pins σ H s)
    (h : ta σ H fun x H1 => tb σ H1 fun y H2 => R x y H2) {Q : Value → Shared → Prop} {f : Value → Value → Sem Value}
    (hf : ∀ v u s2 x y H2, Inv X pins σ H2 s2 → RelV x v → RelV y u → R x y H2 → wpAny (model X.prog X.w) X.A (f v u) Q X.xe s2) :
    wpAny (model X.prog X.w) X.A (eval a X.env) (fun v s₁ => wpAny (model X.prog X.w) X.A (eval b X.env) (fun u s₂ => wpAny (model X.prog X.w) X.A (f v u) Q X.xe s₂) X.xe s₁) X.xe s := by
  refine thn (ha pins s σ H _ I h) fun v s1 ⟨x, H1, I1, r1, q1⟩ => ?_
  refine thn (hb pins s1 σ H1 _ I1 q1) fun u s2 ⟨y, H2, I2, r2, q2⟩ => ?_
  exact hf v u s2 x y H2 I2 r1 r2 q2

theorem pe_op {op : Operator} {r : R2} (ho : OpR X (binaryOp op) r) (ha : PE X a ta) (hb : PE X b tb) : PE X (.BinOp a op b pos) (tOp r ta tb) := by
  intro pins s σ H Q I h
  exact wpAny_BinOp (binT ha hb I h fun v u s2 x y H2 I2 rx ry q => ho pins s2 σ H2 x y v u Q I2 rx ry q)
theorem pe_un {op : UnaryOp} {r : V → Hp → VK → Prop} (ho : UnR X (unaryOp op) r) (ha : PE X a ta) : PE X (.UnaryOp op a pos) (tUn r ta) := by
  intro pins s σ H Q I h
  exact UnaryOp_ (thn (ha pins s σ H _ I h) fun v s1 ⟨x, H1, I1, r1, q1⟩ => ho pins s1 σ H1 x v Q I1 r1 q1)

/-! ### ints -/
theorem opI {f : Value → Value → Sem Value} {C : Int → Int → Prop} {g : Int → Int → Int}
    (rule : ∀ (i j : Int) (t u : Tok) (s : Shared) (Q : Value → Shared → Prop) (E : Value → Shared → Prop), C i j → Q (.int (g i j) s.toks) { s with toks := s.toks + 1 } → wpAny (model X.prog X.w) X.A (f (.int i t) (.int j u)) Q E s) :
    OpR X f (rI C fun i j => .int (g i j)) := by
  intro pins s σ H x y v u Q I rx ry h
  obtain ⟨i, j, rfl, rfl, hc, q⟩ := h
  obtain ⟨t, rfl⟩ := rx
  obtain ⟨t', rfl⟩ := ry
  exact rule i j t t' s _ _ hc ⟨.int (g i j), H, I.tok _, ⟨_, rfl⟩, q⟩
theorem opI0 {f : Value → Value → Sem Value} {g : Int → Int → Int}
    (rule : ∀ (i j : Int) (t u : Tok) (s : Shared) (Q : Value → Shared → Prop) (E : Value → Shared → Prop), Q (.int (g i j) s.toks) { s with toks := s.toks + 1 } → wpAny (model X.prog X.w) X.A (f (.int i t) (.int j u)) Q E s) :
    OpR X f (rI0 fun i j => .int (g i j)) := by
  intro pins s σ H x y v u Q I rx ry h
  obtain ⟨i, j, rfl, rfl, q⟩ := h
  obtain ⟨t, rfl⟩ := rx
  obtain ⟨t', rfl⟩ := ry
  exact rule i j t t' s _ _ ⟨.int (g i j), H, I.tok _, ⟨_, rfl⟩, q⟩
theorem opB0 {f : Value → Value → Sem Value} {g : Int → Int → Bool}
    (rule : ∀ (i j : Int) (t u : Tok) (s : Shared) (Q : Value → Shared → Prop) (E : Value → Shared → Prop), Q (.bool (g i j)) s → wpAny (model X.prog X.w) X.A (f (.int i t) (.int j u)) Q E s) :
    OpR X f (rI0 fun i j => .bl (g i j)) := by
  intro pins s σ H x y v u Q I rx ry h
  obtain ⟨i, j, rfl, rfl, q⟩ := h
  obtain ⟨t, rfl⟩ := rx
  obtain ⟨t', rfl⟩ := ry
  exact rule i j t t' s _ _ ⟨.bl (g i j), H, I, rfl, q⟩

def CDiv (i j : Int) : Prop := 0 < j ∧ j < 1073741824
def CDivN (i j : Int) : Prop := j ≠ 0 ∧ j.natAbs < 1073741824
def CPow (i j : Int) : Prop := 0 ≤ j ∧ j ≤ 1000000 ∧ i.natAbs < 2 ^ 64
def CMul (i j : Int) : Prop := (-(2 ^ 64) < i ∧ i < 2 ^ 64) ∨ (-(2 ^ 64) < j ∧ j < 2 ^ 64)
theorem CMul.ok {i j : Int} (h : CMul i j) : IntMulOk i j := by
  rcases h with ⟨h1, h2⟩ | ⟨h1, h2⟩
  · exact .of_left (intBits_le_64 h1 h2)
  · exact .of_right (intBits_le_64 h1 h2)

theorem op_add : OpR X (binaryOp .Add) (rI0 fun i j => .int (i + j)) := opI0 fun _ _ _ _ _ _ _ q => add_int q
theorem op_sub : OpR X (binaryOp .Sub) (rI0 fun i j => .int (i - j)) := opI0 fun _ _ _ _ _ _ _ q => sub_int q
theorem op_mul : OpR X (binaryOp .Mult) (rI CMul fun i j => .int (i * j)) := opI fun _ _ _ _ _ _ _ hc q => mul_int q hc.ok


theorem unI {f : Value → Sem Value} {g : Int → Int}
    (rule : ∀ (i : Int) (t : Tok) (s : Shared) (Q : Value → Shared → Prop) (E : Value → Shared → Prop), Q (.int (g i) s.toks) { s with toks := s.toks + 1 } → wpAny (model X.prog X.w) X.A (f (.int i t)) Q E s) :
    UnR X f (rU fun i => .int (g i)) := by
  intro pins s σ H x v Q I rx h
  obtain ⟨i, rfl, q⟩ := h
  obtain ⟨t, rfl⟩ := rx
  exact rule i t s _ _ ⟨.int (g i), H, I.tok _, ⟨_, rfl⟩, q⟩
theorem un_neg : UnR X (unaryOp .USub) (rU fun i => .int (-i)) := unI fun _ _ _ _ _ q => neg_int q

/-! ### bools among ints: n += (a < b) -/
end

/-! ### comparisons -/
/-- the scalars that == tells apart as data does -/
def scal : V → V → Bool
  | .non, .non => true | .non, .int _ => true | .int _, .non => true | .non, .bl _ => true | .bl _, .non => true | .non, .str _ => true | .str _, .non => true
  | .int _, .int _ => true | .bl _, .bl _ => true | .str _, .str _ => true | .byt _, .byt _ => true
  | .int _, .str _ => true | .str _, .int _ => true | .bl _, .str _ => true | .str _, .bl _ => true
  | _, _ => false
def rEq : R2 := fun x y H Q => scal x y = true ∧ Q (.bl (decide (x = y))) H
def rNe : R2 := fun x y H Q => scal x y = true ∧ Q (.bl (!decide (x = y))) H

theorem dec_int {i j : Int} : decide (V.int i = V.int j) = (i == j) := by
  rw [Bool.eq_iff_iff]
  simp
theorem dec_bl {i j : Bool} : decide (V.bl i = V.bl j) = (i == j) := by
  rw [Bool.eq_iff_iff]
  simp
theorem dec_str {i j : Str} : decide (V.str i = V.str j) = (i == j) := by
  rw [Bool.eq_iff_iff]
  simp
theorem dec_byt {i j : Array UInt8} : decide (V.byt i = V.byt j) = (i.toList == j.toList) := by
  rw [Bool.eq_iff_iff]
  cases i
  cases j
  simp

section
variable {X : Cx} {a b c : Expr} {ta tb tc : TE} {pos : Pos}
theorem fin_bl {pins : List (Addr × Obj)} {σ : St} {H : Hp} {s : Shared} {Q : VK} {k k' : Bool} (I : Inv X pins σ H s) (q : Q (.bl k) H) (e : k = k') : EP X pins σ Q (.bool k') s := by
  subst e
  exact ⟨.bl k, H, I, rfl, q⟩
theorem op_eq : OpR X (compareOp .Eq) rEq := by
  intro pins s σ H x y v u Q I rx ry h
  obtain ⟨hs, q⟩ := h
  cases x with
  | non =>
    cases rx
    cases y with
    | non => cases ry; exact PySem.EqNone.eq_none_none (fin_bl I q (by simp))
    | bl j => cases ry; exact PySem.EqNone.eq_none_bool (fin_bl I q (by simp))
    | int j => obtain ⟨t', rfl⟩ := ry; exact PySem.EqNone.eq_none_int (fin_bl I q (by simp))
    | str j => obtain ⟨t', rfl⟩ := ry; exact PySem.EqNone.eq_none_str (fin_bl I q (by simp))
    | _ => exact absurd (show false = true from hs) Bool.false_ne_true
  | bl i =>
    cases rx
    cases y with
    | non => cases ry; exact PySem.EqNone.eq_bool_none (fin_bl I q (by simp))
    | bl j => cases ry; exact eq_bool (fin_bl I q dec_bl)
    | str j => obtain ⟨t', rfl⟩ := ry; exact PySem.EqMixed.eq_bool_str (fin_bl I q (by simp))
    | _ => exact absurd (show false = true from hs) Bool.false_ne_true
  | int i =>
    obtain ⟨t, rfl⟩ := rx
    cases y with
    | non => cases ry; exact PySem.EqNone.eq_int_none (fin_bl I q (by simp))
    | int j => obtain ⟨t', rfl⟩ := ry; exact eq_int (fin_bl I q dec_int)
    | str j => obtain ⟨t', rfl⟩ := ry; exact PySem.EqMixed.eq_int_str (fin_bl I q (by simp))
    | _ => exact absurd (show false = true from hs) Bool.false_ne_true
  | str i =>
    obtain ⟨t, rfl⟩ := rx
    cases y with
    | non => cases ry; exact PySem.EqNone.eq_str_none (fin_bl I q (by simp))
    | bl j => cases ry; exact PySem.EqMixed.eq_str_bool (fin_bl I q (by simp))
    | int j => obtain ⟨t', rfl⟩ := ry; exact PySem.EqMixed.eq_str_int (fin_bl I q (by simp))
    | str j => obtain ⟨t', rfl⟩ := ry; exact eq_str (fin_bl I q dec_str)
    | _ => exact absurd (show false = true from hs) Bool.false_ne_true
  | byt i =>
    obtain ⟨t, rfl⟩ := rx
    cases y with
    | byt j => obtain ⟨t', rfl⟩ := ry; exact PySem.W.eq_bytes (fin_bl I q dec_byt)
    | _ => exact absurd (show false = true from hs) Bool.false_ne_true
  | _ => cases y <;> exact absurd (show false = true from hs) Bool.false_ne_true
theorem op_ne : OpR X (compareOp .NotEq) rNe := by
  intro pins s σ H x y v u Q I rx ry h
  obtain ⟨hs, q⟩ := h
  cases x with
  | non =>
    cases rx
    cases y with
    | non => cases ry; exact PySem.EqNone.ne_none_none (fin_bl I q (by simp))
    | bl j => cases ry; exact PySem.EqNone.ne_none_bool (fin_bl I q (by simp))
    | int j => obtain ⟨t', rfl⟩ := ry; exact PySem.EqNone.ne_none_int (fin_bl I q (by simp))
    | str j => obtain ⟨t', rfl⟩ := ry; exact PySem.EqNone.ne_none_str (fin_bl I q (by simp))
    | _ => exact absurd (show false = true from hs) Bool.false_ne_true
  | bl i =>
    cases rx
    cases y with
    | non => cases ry; exact PySem.EqNone.ne_bool_none (fin_bl I q (by simp))
    | bl j => cases ry; exact ne_bool (fin_bl I q (congrArg not dec_bl))
    | str j => obtain ⟨t', rfl⟩ := ry; exact PySem.EqMixed.ne_bool_str (fin_bl I q (by simp))
    | _ => exact absurd (show false = true from hs) Bool.false_ne_true
  | int i =>
    obtain ⟨t, rfl⟩ := rx
    cases y with
    | non => cases ry; exact PySem.EqNone.ne_int_none (fin_bl I q (by simp))
    | int j => obtain ⟨t', rfl⟩ := ry; exact ne_int (fin_bl I q (congrArg not dec_int))
    | str j => obtain ⟨t', rfl⟩ := ry; exact PySem.EqMixed.ne_int_str (fin_bl I q (by simp))
    | _ => exact absurd (show false = true from hs) Bool.false_ne_true
  | str i =>
    obtain ⟨t, rfl⟩ := rx
    cases y with
    | non => cases ry; exact PySem.EqNone.ne_str_none (fin_bl I q (by simp))
    | bl j => cases ry; exact PySem.EqMixed.ne_str_bool (fin_bl I q (by simp))
    | int j => obtain ⟨t', rfl⟩ := ry; exact PySem.EqMixed.ne_str_int (fin_bl I q (by simp))
    | str j => obtain ⟨t', rfl⟩ := ry; exact ne_str (fin_bl I q (congrArg not dec_str))
    | _ => exact absurd (show false = true from hs) Bool.false_ne_true
  | byt i =>
    obtain ⟨t, rfl⟩ := rx
    cases y with
    | byt j => obtain ⟨t', rfl⟩ := ry; exact PySem.W.ne_bytes (fin_bl I q (congrArg not dec_byt))
    | _ => exact absurd (show false = true from hs) Bool.false_ne_true
  | _ => cases y <;> exact absurd (show false = true from hs) Bool.false_ne_true

theorem op_lt : OpR X (compareOp .Lt) (rI0 fun i j => .bl (decide (i < j))) := opB0 fun _ _ _ _ _ _ _ q => lt_int q
theorem op_le : OpR X (compareOp .LtE) (rI0 fun i j => .bl (decide (i ≤ j))) := opB0 fun _ _ _ _ _ _ _ q => le_int q
theorem op_gt : OpR X (compareOp .Gt) (rI0 fun i j => .bl (decide (j < i))) := opB0 fun _ _ _ _ _ _ _ q => gt_int q
theorem op_ge : OpR X (compareOp .GtE) (rI0 fun i j => .bl (decide (j ≤ i))) := opB0 fun _ _ _ _ _ _ _ q => ge_int q

theorem op_notN : OpR X (compareOp .IsNot) (fun x y H Q => y = .non ∧ Q (.bl (!decide (x = .non))) H) := by
  intro pins s σ H x y v u Q I rx ry h
  obtain ⟨rfl, q⟩ := h
  cases ry
  refine isnot_none_gen (fin_bl I q ?_)
  cases x <;> first
    | (cases rx; rfl)
    | (obtain ⟨t, rfl⟩ := rx; rfl)

/-- is, is not of two objects that are tracked lists or instances -/
def isObj : HO → Bool
  | .lst _ => true
  | .ins _ _ _ => true
  | _ => false


theorem nomark (b : Expr) {op : CmpOp} (h : op ≠ .In := by decide) (h2 : op ≠ .NotIn := by decide) : behindInMarks op b = false := by
  have e1 : (op == CmpOp.In) = false := by cases op <;> first | rfl | exact absurd rfl h
  have e2 : (op == CmpOp.NotIn) = false := by cases op <;> first | rfl | exact absurd rfl h2
  cases b <;> simp [behindInMarks, e1, e2]
/-- a comparison as a value; hm: nomark b, or (for in, not in) by with_unfolding_all rfl -/
theorem pe_cmpR {op : CmpOp} {r : R2} (ho : OpR X (compareOp op) r) (ha : PE X a ta) (hb : PE X b tb) (hm : behindInMarks op b = false) : PE X (.Compare a [op] [b] pos) (tOp r ta tb) := by
  intro pins s σ H Q I h
  exact wpAny_Compare1 (binT ha hb I h fun v u s2 x y H2 I2 rx ry q => ho pins s2 σ H2 x y v u Q I2 rx ry q) hm
/-- a reading of a value as a test -/
def tTest (t : TE) : TT := fun σ H Q => t σ H fun x H' => ∃ k, x = .bl k ∧ Q k H'
theorem pt_cmpR {op : CmpOp} {r : R2} (ho : OpR X (compareOp op) r) (ha : PE X a ta) (hb : PE X b tb) (hm : behindInMarks op b = false) : PT X (.Compare a [op] [b] pos) (tTest (tOp r ta tb)) := by
  intro pins s σ H Q I h
  refine wpAny_isTrue_Compare1 (thn (ha pins s σ H _ I h) fun v s1 ⟨x, H1, I1, r1, q1⟩ => thn (hb pins s1 σ H1 _ I1 q1) fun u s2 ⟨y, H2, I2, r2, q2⟩ =>
    thn (ho pins s2 σ H2 x y v u _ I2 r1 r2 q2) fun c s3 ⟨z, H3, I3, r3, k, e, q3⟩ => ?_) hm
  subst e
  cases r3
  exact wpAny_truthy_bool ⟨H3, I3, q3⟩
/-- a op1 b op2 c -/
def tChain (r r' : R2) (ta tb tc : TE) : TE := fun σ H Q => ta σ H fun x H1 => tb σ H1 fun y H2 => r x y H2 fun z H3 => ∃ k, z = .bl k ∧
  (if k = true then tc σ H3 fun w' H4 => r' y w' H4 Q else Q (.bl false) H3)

/-! ### truth -/
/-- a value's truth by the abstract heap -/
def TruV (K : PySem.W.Frag) (x : V) (H : Hp) (k : Bool) : Prop :=
  match x with
  | .non => k = false
  | .bl b => k = b
  | .int i => k = (i != 0)
  | .str y => y.length ≤ sizeLine ∧ k = ((y.length : Int) != 0)
  | .byt y => y.size ≤ sizeLine ∧ k = ((y.size : Int) != 0)
  | .ref p => (∃ xs, SqL K H p xs ∧ k = !xs.isEmpty) ∨ (∃ xs, SqT K H p xs ∧ k = !xs.isEmpty) ∨ ∃ kvs, H p = some (.dK kvs) ∧ k = !kvs.isEmpty
  | _ => False
theorem isEmpty_kv {κ : Type} {kvs : List (κ × V)} {vs : List (κ × Value)} (r : KV kvs vs) : (!vs.isEmpty) = !kvs.isEmpty := by
  cases r <;> rfl
theorem isEmpty_of {xs : List V} {its : List Value} (r : Vals xs its) : (!its.toArray.isEmpty) = !xs.isEmpty := by
  cases r <;> simp
theorem line63 : (sizeLine : Nat) < 2 ^ 63 := by rw [sizeLine_eq]; decide
theorem tru_ok : TruR X (fun x H Q => ∃ k, TruV X.K x H k ∧ Q k H) := by
  intro pins s σ H x v Q I rx h
  obtain ⟨k, e, q⟩ := h
  have hl := line63
  have hs : sizeLine = 16777216 := sizeLine_eq
  cases x with
  | non =>
    cases rx
    have e' : k = false := e
    subst e'
    exact truthy_none ⟨H, I, q⟩
  | bl b =>
    cases rx
    have e' : k = b := e
    subst e'
    exact wpAny_truthy_bool ⟨H, I, q⟩
  | int i =>
    obtain ⟨t, rfl⟩ := rx
    have e' : k = (i != 0) := e
    subst e'
    exact PySem.P.truthy_int ⟨H, I, q⟩
  | str y =>
    obtain ⟨t, rfl⟩ := rx
    obtain ⟨hy, e'⟩ : y.length ≤ sizeLine ∧ k = ((y.length : Int) != 0) := e
    subst e'
    exact PySem.P.truthy_str (by omega) ⟨H, I.tok _, q⟩
  | byt y =>
    obtain ⟨t, rfl⟩ := rx
    obtain ⟨hy, e'⟩ : y.size ≤ sizeLine ∧ k = ((y.size : Int) != 0) := e
    subst e'
    exact PySem.W.truthy_bytes (by omega) ⟨H, I.tok _, q⟩
  | ref p =>
    cases rx
    have e' : (∃ xs, SqL X.K H p xs ∧ k = !xs.isEmpty) ∨ (∃ xs, SqT X.K H p xs ∧ k = !xs.isEmpty) ∨ ∃ kvs, H p = some (.dK kvs) ∧ k = !kvs.isEmpty := e
    rcases e' with ⟨xs, hx, e'⟩ | ⟨xs, hx, e'⟩ | ⟨kvs, hx, e'⟩
    · subst e'
      obtain ⟨its, r, pl, hz⟩ := I.list hx
      have hlen := r.length
      exact wpAny_truthy_list pl.isList (by simp only [List.size_toArray]; omega) ⟨H, I.tok _, by rw [isEmpty_of r]; exact q⟩
    · subst e'
      obtain ⟨its, r, pl, hz⟩ := I.tuple hx
      have hlen := r.length
      exact truthy_tuple pl (by simp only [List.size_toArray]; omega) ⟨H, I.tok _, by rw [isEmpty_of r]; exact q⟩
    · subst e'
      obtain ⟨hz, hS, vs, r, m⟩ : kvs.length ≤ sizeLine ∧ (p == sysModules) = false ∧ ∃ vs, KV kvs vs ∧ s.heap.DictOf (mixKind X.prog X.w) p vs := I.hok p _ hx
      have hlen : kvs.length = vs.length := Paired.length r
      exact wpAny_truthy_dict hS m (by omega) ⟨H, I.tok _, by rw [isEmpty_kv r]; exact q⟩
  | _ => exact (show False from e).elim
/-- any expression whose test is its value's truth (a name, a call, a subscript, a field ..: he by fun _ => rfl) -/
theorem pt_truth (ha : PE X a ta) (he : ∀ whole, isTrue a X.env whole = (do let v ← whole; standAt a.pos; holding [v] (truthy v))) :
    PT X a (fun σ H Q => ta σ H fun x H' => ∃ k, TruV X.K x H' k ∧ Q k H') := by
  intro pins s σ H Q I h
  exact isTrue_plain (thn (ha pins s σ H _ I h) fun v s1 ⟨x, H1, I1, r1, q1⟩ => tru_ok pins s1 σ H1 x v Q I1 r1 q1) (he _)

/-! ### strs and bytes -/

def PlainIxT (b : Expr) : Prop := ∀ o i, subscripted b false o i = operate [o, i] (getItem o i)

/-! ### scalar builtins, by CallR -/
theorem vals1 {x : V} {us : List Value} (r : Vals [x] us) : ∃ u, us = [u] ∧ RelV x u := by
  cases r with
  | cons r1 r2 => cases r2; exact ⟨_, rfl, r1⟩
theorem vals2 {x y : V} {us : List Value} (r : Vals [x, y] us) : ∃ u w', us = [u, w'] ∧ RelV x u ∧ RelV y w' := by
  cases r with
  | cons r1 r2 =>
    cases r2 with
    | cons r3 r4 => cases r4; exact ⟨_, _, rfl, r1, r3⟩
theorem call_max2 (hc : X.calm = true) : CallR X (.builtin "max") (fun xs H Q => ∃ i j, xs = [.int i, .int j] ∧ Q (.int (if j > i then j else i)) H) := by
  intro pins s σ H xs us Q I r h
  obtain ⟨i, j, rfl, q⟩ := h
  obtain ⟨u, w', rfl, ⟨t, rfl⟩, ⟨t', rfl⟩⟩ := vals2 r
  refine max_two_ints (I.ok.hd hc) fun h' tk k => ⟨_, H, I.kept k, ?_, q⟩
  by_cases hj : j > i
  · rw [if_pos hj, if_pos hj]; exact ⟨_, rfl⟩
  · rw [if_neg hj, if_neg hj]; exact ⟨_, rfl⟩
/-- len of a str, a bytes, a list, a tuple -/
def LenV (K : PySem.W.Frag) (x : V) (H : Hp) (n : Nat) : Prop :=
  match x with
  | .str y => y.length ≤ sizeLine ∧ n = y.length
  | .byt y => y.size ≤ sizeLine ∧ n = y.size
  | .ref p => (∃ xs, SqL K H p xs ∧ n = xs.length) ∨ ∃ xs, SqT K H p xs ∧ n = xs.length
  | _ => False
end
end L2

namespace L2
open PySem PySem.Spec PyProof.Rows

/-! ### an instance, its attributes a map -/
structure ObjM (h : Heap) (x dx C : Addr) (mA : Str → Option Value) : Prop where
  obj : h.get? x = some (PySem.W.instObj C dx)
  ns : h.Ns1 dx mA
  ne : dx ≠ x

theorem lookIn_ns {h : Heap} {dx : Addr} {mA : Str → Option Value} (n : h.Ns1 dx mA) : ∃ od, h.get? dx = some od ∧ ∀ name, PySem.W.lookIn name od = some (mA name) := by
  obtain ⟨o, es, ep, ho, hd, hk, _, hm⟩ := n
  refine ⟨o, ho, fun name => ?_⟩
  have e := hm name
  unfold nsFind findBy at e
  rw [← Array.find?_toList] at e
  unfold PySem.W.lookIn
  rw [hd]
  dsimp only
  split
  · rename_i y q
    rw [q] at e
    exact congrArg some e
  · rename_i q
    rw [q] at e
    have a : es.toList.any (·.refKey) = false := by
      rw [List.any_eq_false]
      intro y hy
      obtain ⟨z, t, hkey⟩ := hk y (Array.mem_toList_iff.mp hy)
      simp [DictEntry.refKey, hkey]
    have a' : ¬ es.toList.any (·.refKey) = true := by rw [a]; exact Bool.false_ne_true
    rw [if_neg a']
    exact congrArg some e

theorem ObjM.look {h : Heap} {x dx C : Addr} {mA : Str → Option Value} (I : ObjM h x dx C mA) : ∃ od, PySem.W.InstAt h x (PySem.W.instObj C dx) C (some od) ∧ ∀ name, PySem.W.lookIn name od = some (mA name) :=
  let ⟨od, ho, hl⟩ := lookIn_ns I.ns
  ⟨od, ⟨I.obj, rfl, rfl, ho⟩, hl⟩

section
variable {prog : Program} {w : World} {A : Around} {E : Value → Shared → Prop} {s : Shared} {K : PySem.W.Frag} {x dx C f : Addr} {mA : Str → Option Value} {name : Str} {v : Value}

theorem get_map {expr : Bool} {Q : Value → Shared → Prop} (X : K.In s.heap) (I : ObjM s.heap x dx C mA) (hg : PySem.W.plainGet K C name = true) (hh : PySem.W.hasDictIn K C = true)
    (ha : PySem.W.findIn K (.ref C) name = some none) (hv : mA name = some v) (hv' : PySem.W.handedIn v = true) (h : Q v { s with toks := s.toks + 1 }) :
    wpAny (model prog w) A (getAttr (.ref x) name expr) Q E s := by
  obtain ⟨od, J, hl⟩ := I.look
  exact PySem.W.get_value X J (PySem.W.plainGet_of hg).1 (PySem.W.findObj_own hh ha rfl (by rw [hl, hv])) hv' h


theorem get_meth {pl : Sem Bool} {Q : Value × List Value → Shared → Prop} (X : K.In s.heap) (I : ObjM s.heap x dx C mA) (hg : PySem.W.plainGet K C name = true)
    (hf : PySem.W.findIn K (.ref C) name = some (some (.ref f))) (ht : PySem.W.isFn K (.ref f) = true) (hv : mA name = none) (h : Q (.ref f, [.ref x]) s) :
    wpAny (model prog w) A (getMethod (.ref x) name pl) Q E s := by
  obtain ⟨od, J, hl⟩ := I.look
  exact PySem.W.method_fn X J (PySem.W.plainGet_of hg).1 (PySem.W.plainGet_of hg).2 hf (beq_iff_eq.mp ht) (by show (PySem.W.lookIn name od).map (·.isSome) = some false; rw [hl, hv]; rfl) h

theorem set_map {ns : List Str} {Q : Unit → Shared → Prop} (X : K.In s.heap) (I : ObjM s.heap x dx C mA)
    (hs : PySem.W.findIn K (.ref C) "__setattr__" = some (some (.builtin "object.__setattr__"))) (hp : PySem.W.plainOver K C = true) (ht : PySem.W.takerIn K C name = some none) (hh : PySem.W.hasDictIn K C = true)
    (hw : PySem.Within mA ns) (hsz : ns.length ≤ sizeLine)
    (h : ∀ h', ObjM h' x dx C (fun y => if y = name then some v else mA y) → Heap.SameBut dx s.heap h' → Q () { s with heap := h', toks := s.toks + 2 }) :
    wpAny (model prog w) A (setAttr (.ref x) name v) Q E s := by
  obtain ⟨od, J, hl⟩ := I.look
  refine PySem.W.set_plain X J hs (PySem.W.osa_open (s := { s with toks := s.toks + 1 }) (r := none) X J hp ht fun b => ?_)
  obtain ⟨cd, hc, hd'⟩ := PySem.W.any_some hh
  have hx : s.heap.get? x = some ⟨.ref C, some dx, .plain, #[]⟩ := I.obj
  refine wpAny_bind (wpAny_pure (wpAny_bind (wpAny_bind (wpAny_loadPart hx (wpAny_bind (PySem.W.Looks.here (s := { s with toks := s.toks + 1 }) (PySem.W.looks_clsIn X hc) ?_))))))
  rw [hd']
  refine wpAny_pure (a := some dx) (wpAny_bind (wpAny_pure (wpAny_bind ?_)))
  refine wpAny_nsSet1 (s := { s with toks := s.toks + 1 }) I.ns fun h' hn2 hs2 => ?_
  obtain ⟨oD, esD, epD, hoD, hdD, hcD⟩ := hn2.count (PySem.Within.cons name v hw)
  refine wpAny_bind (wpAny_lookBehind hoD (by rw [hdD]; exact pastItsLine_dict (Nat.le_trans hcD (by rw [List.length_cons]; omega))) ?_)
  exact wpAny_pure (h _ ⟨(hs2.2 _ (Ne.symm I.ne)).trans I.obj, hn2, I.ne⟩ hs2)

/-- C(..): the dict at the heap's end, the instance behind it; then its __init__ -/
theorem make_map {R : Result → Shared → Prop} {vs : List Value} {kw : List (Str × Value)} (X : K.In s.heap) (hm : PySem.W.makesIn K C = true)
    (hi : PySem.W.findIn K (.ref C) "__init__" = some (some (.ref f))) (hf : PySem.W.typeIn K (.ref f) = some (.type "function"))
    (h : codeAny (model prog w) (A.under (.builtin "type.__call__" ⟨.ref C :: vs, kw⟩)) (.call (.ref f) ⟨.ref (s.heap.objs.size + 1) :: vs, kw⟩) (PySem.W.InitBack (s.heap.objs.size + 1) R)
      { s with heap := (s.heap.push PySem.W.emptyDict).push (PySem.W.instObj C s.heap.objs.size) }) :
    codeAny (model prog w) A (.call (.ref C) ⟨vs, kw⟩) R s := by
  obtain ⟨hh, g, d, t, os⟩ := s
  exact PySem.W.make_core (PySem.W.makes_of X hm) (PySem.W.looks_findIn X hi) (fun self => PySem.W.bind_fn X self hf) (.inl rfl) h
end

/-! ### the attributes as a list of pairs -/
def putF (f : Str) (v : V) : List (Str × V) → List (Str × V)
  | [] => [(f, v)]
  | (g, x) :: r => if g = f then (g, v) :: r else (g, x) :: putF f v r
theorem lookup_putF (f g : Str) (v : V) : ∀ fs : List (Str × V), (putF f v fs).lookup g = if g = f then some v else fs.lookup g
  | [] => by
    show List.lookup g [(f, v)] = _
    by_cases h : g = f
    · have hb : (g == f) = true := beq_iff_eq.mpr h
      simp only [List.lookup, hb, if_pos h]
    · have hb : (g == f) = false := beq_eq_false_iff_ne.mpr h
      simp only [List.lookup, hb, if_neg h]
  | (k, x) :: r => by
    have ih := lookup_putF f g v r
    rw [show putF f v ((k, x) :: r) = (if k = f then (k, v) :: r else (k, x) :: putF f v r) from rfl]
    by_cases hk : k = f
    · rw [if_pos hk]
      by_cases h : g = k
      · have hb : (g == k) = true := beq_iff_eq.mpr h
        simp only [List.lookup, hb, if_pos (h.trans hk)]
      · have hb : (g == k) = false := beq_eq_false_iff_ne.mpr h
        simp only [List.lookup, hb, if_neg (fun e : g = f => h (e.trans hk.symm))]
    · rw [if_neg hk]
      by_cases h : g = k
      · have hb : (g == k) = true := beq_iff_eq.mpr h
        simp only [List.lookup, hb, if_neg (fun e : g = f => hk (h.symm.trans e))]
      · have hb : (g == k) = false := beq_eq_false_iff_ne.mpr h
        simp only [List.lookup, hb]
        exact ih
theorem keys_putF (f : Str) (v : V) : ∀ fs : List (Str × V), f ∈ (putF f v fs).map (·.1) ∧ ∀ g, g ∈ fs.map (·.1) → g ∈ (putF f v fs).map (·.1)
  | [] => ⟨by simp [putF], fun g h => by simp at h⟩
  | (k, x) :: r => by
    obtain ⟨i1, i2⟩ := keys_putF f v r
    rw [show putF f v ((k, x) :: r) = (if k = f then (k, v) :: r else (k, x) :: putF f v r) from rfl]
    by_cases hk : k = f
    · rw [if_pos hk]
      subst hk
      exact ⟨by simp, fun g h => by simpa using h⟩
    · rw [if_neg hk]
      refine ⟨?_, fun g h => ?_⟩
      · rw [List.map_cons]
        exact List.mem_cons_of_mem _ i1
      · rw [List.map_cons] at h ⊢
        rcases List.mem_cons.mp h with e | e
        · exact List.mem_cons.mpr (.inl e)
        · exact List.mem_cons_of_mem _ (i2 g e)
theorem length_putF (f : Str) (v : V) : ∀ fs : List (Str × V), (putF f v fs).length ≤ fs.length + 1
  | [] => by simp [putF]
  | (k, x) :: r => by
    have ih := length_putF f v r
    rw [show putF f v ((k, x) :: r) = (if k = f then (k, v) :: r else (k, x) :: putF f v r) from rfl]
    by_cases hk : k = f
    · rw [if_pos hk, List.length_cons, List.length_cons]; omega
    · rw [if_neg hk, List.length_cons, List.length_cons]; omega

theorem RelO.some_of {v : V} {o : Option Value} (r : RelO (some v) o) : ∃ u, o = some u ∧ RelV v u := by
  cases o with
  | none => exact (show False from r).elim
  | some u => exact ⟨u, rfl, r⟩
theorem RelO.none_of {o : Option Value} (r : RelO none o) : o = none := by
  cases o with
  | none => rfl
  | some u => exact (show False from r).elim
theorem handed_of {v : V} {u : Value} (r : RelV v u) : PySem.W.handedIn u = true := by
  cases v with
  | non => cases (show u = Value.none from r); rfl
  | bl b => cases (show u = Value.bool b from r); rfl
  | int i => obtain ⟨t, e⟩ := (show ∃ t, u = Value.int i t from r); cases e; rfl
  | str x => obtain ⟨t, e⟩ := (show ∃ t, u = Value.str x t from r); cases e; rfl
  | byt b => obtain ⟨t, e⟩ := (show ∃ t, u = Value.bytes b t from r); cases e; rfl
  | flt b => obtain ⟨t, e⟩ := (show ∃ t, u = Value.float b t from r); cases e; rfl
  | ref a => cases (show u = Value.ref a from r); rfl
  | ty n => cases (show u = Value.type n from r); rfl

section
variable {P : Program} {w : World} {H H' : Hp} {h h' : Heap} {a C dx : Addr} {fs fs' : List (Str × V)}
theorem ins_get (hok : HOk P w H h) (e : H a = some (.ins C dx fs)) : ∃ mA, ObjM h a dx C mA ∧ (∀ f, RelO (fs.lookup f) (mA f)) ∧ PySem.Within mA (fs.map (·.1)) ∧ fs.length ≤ 1000 ∧ H dx = some (.own a) := by
  obtain ⟨d, z, ne, ob, mA, n, r, q⟩ := (show ObjOk P w H h a (.ins C dx fs) from hok a _ e)
  exact ⟨mA, ⟨ob, n, ne⟩, r, q, z, d⟩
end

/-! ### what of the text a class must have -/
structure Cls (K : PySem.W.Frag) (C : Addr) : Prop where
  pg : PySem.W.plainGet K C Str.empty = true
  hd : PySem.W.hasDictIn K C = true
  po : PySem.W.plainOver K C = true
  sa : PySem.W.findIn K (.ref C) "__setattr__" = some (some (.builtin "object.__setattr__"))
theorem Cls.get {K : PySem.W.Frag} {C : Addr} (c : Cls K C) (f : Str) : PySem.W.plainGet K C f = true := c.pg
/-- no class of it has the name -/
def NoAttr (K : PySem.W.Frag) (C : Addr) (f : Str) : Prop := PySem.W.findIn K (.ref C) f = some none
theorem NoAttr.taker {K : PySem.W.Frag} {C : Addr} {f : Str} (n : NoAttr K C f) : PySem.W.takerIn K C f = some none := by
  unfold PySem.W.takerIn
  rw [show PySem.W.findIn K (.ref C) f = some none from n]
  rfl
/-- a constant of the class -/
structure Con (K : PySem.W.Frag) (C : Addr) (f : Str) (v : V) (u : Value) : Prop where
  at_ : PySem.W.findIn K (.ref C) f = some (some u)
  rel : RelV v u
  get : PySem.W.specialIn K u "__get__" = some none
  cp : PySem.W.copiedNames.contains f = false
/-- a method: a plain def of the class or of one above it -/
structure Meth (K : PySem.W.Frag) (C : Addr) (m : Str) (f : Addr) : Prop where
  at_ : PySem.W.findIn K (.ref C) m = some (some (.ref f))
  fn : PySem.W.isFn K (.ref f) = true
  kp : PySem.W.keepIn K (.ref f) = true

section
variable {X : Cx} {pins : List (Addr × Obj)} {σ : St} {H : Hp} {s : Shared} {a C dx : Addr} {fs : List (Str × V)} {f : Str} {v : V} {A : Around} {E : Value → Shared → Prop}

theorem getattr_ok {b : Bool} {Q : Value → Shared → Prop} (I : Inv X pins σ H s) (e : H a = some (.ins C dx fs)) (c : Cls X.K C) (n : NoAttr X.K C f) (l : fs.lookup f = some v)
    (h : ∀ u s', Inv X pins σ H s' → RelV v u → Q u s') : wpAny (model X.prog X.w) A (getAttr (.ref a) f b) Q E s := by
  obtain ⟨mA, O, r, _, _, _⟩ := ins_get I.hok e
  obtain ⟨u, hu, ru⟩ := RelO.some_of (v := v) (o := mA f) (by rw [← l]; exact r f)
  exact get_map I.kIn O (c.get f) c.hd n hu (handed_of ru) (h u _ (I.tok _) ru)


theorem getmeth_ok {m : Str} {g : Addr} {pl : Sem Bool} {Q : Value × List Value → Shared → Prop} (I : Inv X pins σ H s) (e : H a = some (.ins C dx fs)) (c : Cls X.K C) (k : Meth X.K C m g) (l : fs.lookup m = none)
    (h : Q (.ref g, [.ref a]) s) : wpAny (model X.prog X.w) A (getMethod (.ref a) m pl) Q E s := by
  obtain ⟨mA, O, r, _, _, _⟩ := ins_get I.hok e
  have hn : mA m = none := RelO.none_of (by rw [← l]; exact r m)
  exact get_meth I.kIn O (c.get m) k.at_ k.fn hn h

theorem setattr_ok {y : V} {u : Value} {Q : Unit → Shared → Prop} (I : Inv X pins σ H s) (e : H a = some (.ins C dx fs)) (c : Cls X.K C) (n : NoAttr X.K C f) (hl : fs.length < 1000) (ry : RelV y u)
    (h : ∀ s', Inv X pins σ (upd H a (.ins C dx (putF f y fs))) s' → Q () s') : wpAny (model X.prog X.w) A (setAttr (.ref a) f u) Q E s := by
  obtain ⟨mA, O, r, wi, _, ho⟩ := ins_get I.hok e
  have hz : (fs.map (·.1)).length ≤ sizeLine := by rw [List.length_map, sizeLine_eq]; omega
  refine set_map I.kIn O c.sa c.po n.taker c.hd wi hz fun h' O' sb => h _ ?_
  have hd : ∃ o, h'.get? dx = some o := let ⟨o, _, _, e', _⟩ := O'.ns; ⟨o, e'⟩
  refine I.write (x := a) (e := dx) (by rw [e]; exact True.intro) (.inr ho) (fun b q hb z => (sb.2 b hb).trans z) hd ?_
  refine ⟨by rw [upd_ne O.ne]; exact ho, ?_, O.ne, O'.obj, _, O'.ns, fun g => ?_, fun g hg => ?_⟩
  · have := length_putF f y fs; omega
  · show RelO ((putF f y fs).lookup g) (if g = f then some u else mA g)
    rw [lookup_putF]
    by_cases q : g = f
    · rw [if_pos q, if_pos q]; exact ry
    · rw [if_neg q, if_neg q]; exact r g
  · by_cases q : g = f
    · rw [q]; exact (keys_putF f y fs).1
    · refine (keys_putF f y fs).2 g (wi g fun z => hg ?_)
      show (if g = f then some u else mA g) = none
      rw [if_neg q]; exact z

/-- a new instance, tracked, without attributes -/
theorem Inv.made (I : Inv X pins σ H s) : Inv X pins σ (upd (upd H s.heap.objs.size (.own (s.heap.objs.size + 1))) (s.heap.objs.size + 1) (.ins C s.heap.objs.size []))
    { s with heap := (s.heap.push PySem.W.emptyDict).push (PySem.W.instObj C s.heap.objs.size) } := by
  have e1 : (s.heap.push PySem.W.emptyDict).get? s.heap.objs.size = some PySem.W.emptyDict := Heap.get?_push_size s.heap rfl
  have e2 : ((s.heap.push PySem.W.emptyDict).push (PySem.W.instObj C s.heap.objs.size)).get? (s.heap.objs.size + 1) = some (PySem.W.instObj C s.heap.objs.size) := by
    have := Heap.get?_push_size (s.heap.push PySem.W.emptyDict) (o := PySem.W.instObj C s.heap.objs.size) rfl
    rwa [Heap.size_push] at this
  have e3 : (s.heap.push PySem.W.emptyDict).Ns s.heap.objs.size (fun _ => none) := ⟨PySem.W.emptyDict, #[], _, e1, rfl, (fun e he => absurd he (by simp)), fun _ => rfl⟩
  have I1 := I.laid (a := s.heap.objs.size) (o := .own (s.heap.objs.size + 1)) (h' := s.heap.push PySem.W.emptyDict) (t' := s.toks) (fun b u q => Heap.get?_push_of_some _ q) (Nat.le_refl _) ⟨_, e1⟩
  refine I1.laid (a := s.heap.objs.size + 1) (o := .ins C s.heap.objs.size []) (t' := s.toks) (fun b u q => Heap.get?_push_of_some _ q) (Nat.le_of_eq (Heap.size_push _ _)) ?_
  have ne : s.heap.objs.size ≠ s.heap.objs.size + 1 := Nat.ne_of_lt (Nat.lt_succ_self _)
  refine ⟨by rw [upd_ne ne, upd_same], Nat.zero_le _, ne, e2, fun _ => none, (Heap.Ns1.of_empty e3).at fun o q => Heap.get?_push_of_some _ q, fun _ => True.intro, fun y hy => absurd rfl hy⟩

/-- e.f where nothing but the object is asked: through attributeBase (super) and the last hold -/
theorem attr_of {prog : Program} {w : World} {env : Env} {e : Expr} {f : Str} {pos : Pos} {s : Shared} {Q : Value → Shared → Prop} (hb : attributeBase e f env (eval e env) = eval e env)
    (h : wpAny (model prog w) A (eval e env) (fun o s₁ => wpAny (model prog w) A (getAttr o f true) Q E s₁) E s) : wpAny (model prog w) A (eval (.Attribute e f pos) env) Q E s :=
  Attribute_any_ h (by rw [arm_eval_Attribute, hb])
end

/-! ### readings and rules -/
/-- e.f, an attribute of the instance -/
def tFld (K : PySem.W.Frag) (ta : TE) (f : Str) : TE := fun σ H Q => ta σ H fun x H1 => ∃ a C dx fs v, x = .ref a ∧ H1 a = some (.ins C dx fs) ∧ Cls K C ∧ NoAttr K C f ∧ fs.lookup f = some v ∧ Q v H1
/-- e.f, a constant of the class -/
def tCon (K : PySem.W.Frag) (ta : TE) (f : Str) : TE := fun σ H Q => ta σ H fun x H1 => ∃ a C dx fs v u, x = .ref a ∧ H1 a = some (.ins C dx fs) ∧ Cls K C ∧ Con K C f v u ∧ fs.lookup f = none ∧ Q v H1
/-- e.f = value -/
def sFld (K : PySem.W.Frag) (ta tv : TE) (f : Str) : TS := fun D σ H => tv σ H fun y H1 => ta σ H1 fun x H2 => ∃ a C dx fs, x = .ref a ∧ H2 a = some (.ins C dx fs) ∧ Cls K C ∧ NoAttr K C f ∧ fs.length < 1000 ∧
  D.nx σ (upd H2 a (.ins C dx (putF f y fs)))
/-- an augmented operator on two values -/
def InOp (X : Cx) (op : Operator) (rd : V → V → Hp → VK → Prop) : Prop :=
  ∀ (pins : List (Addr × Obj)) (s : Shared) (σ : St) (H : Hp) (x y : V) (u v : Value) (Q : VK), Inv X pins σ H s → RelV x u → RelV y v → rd x y H Q → wpAny (model X.prog X.w) X.A (inplaceOp op u v) (EP X pins σ Q) X.xe s
/-- e.f op= value -/
def sFldAug (K : PySem.W.Frag) (ta tv : TE) (rd : V → V → Hp → VK → Prop) (f : Str) : TS := fun D σ H => ta σ H fun x H1 => ∃ a C dx fs v, x = .ref a ∧ H1 a = some (.ins C dx fs) ∧ Cls K C ∧ NoAttr K C f ∧ fs.lookup f = some v ∧
  tv σ H1 fun y H2 => rd v y H2 fun z H3 => ∃ dx' fs', H3 a = some (.ins C dx' fs') ∧ fs'.length < 1000 ∧ D.nx σ (upd H3 a (.ins C dx' (putF f z fs')))

section
variable {X : Cx} {o e value : Expr} {f : Str} {pos pos' tpos : Pos} {ta tv : TE}
theorem pe_fld (he : PE X e ta) (hb : attributeBase e f X.env (eval e X.env) = eval e X.env) : PE X (.Attribute e f pos) (tFld X.K ta f) := by
  intro pins s σ H Q I h
  refine attr_of hb (thn (he pins s σ H _ I h) fun u s1 ⟨x, H1, I1, rx, a, C, dx, fs, v, ex, ea, c, n, l, q⟩ => ?_)
  subst ex
  obtain rfl : u = Value.ref a := rx
  exact getattr_ok I1 ea c n l fun u' s2 I2 ru => ⟨v, H1, I2, ru, q⟩
theorem ps_fld (ha : PE X o ta) (hv : PE X value tv) (hs : swapsWith value (some (.Attribute o f pos')) pos.line X.env = pure false) : PS X (.Assign [.Attribute o f pos'] value pos) (sFld X.K ta tv f) := by
  intro pins s σ H D I h
  refine plainObj_wpAny_Assign_Attribute (thn (hv pins s σ H _ I h) fun u s1 ⟨y, H1, I1, ry, q⟩ => thn (ha pins s1 σ H1 _ I1 q) fun ov s2 ⟨x, H2, I2, rx, a, C, dx, fs, ex, ea, c, n, l, q2⟩ => ?_) hs
  subst ex
  obtain rfl : ov = Value.ref a := rx
  exact setattr_ok I2 ea c n l ry fun s3 I3 => ⟨σ, _, I3, q2⟩
def rAdd : V → V → Hp → VK → Prop := fun x y H Q => ∃ i j, x = .int i ∧ y = .int j ∧ Q (.int (i + j)) H
def rSub : V → V → Hp → VK → Prop := fun x y H Q => ∃ i j, x = .int i ∧ y = .int j ∧ Q (.int (i - j)) H

end

/-! ### isinstance -/
section
variable {X : Cx} {pins : List (Addr × Obj)} {σ : St} {H : Hp} {s : Shared} {A : Around} {E : Value → Shared → Prop} {Q : Value → Shared → Prop} {c : Value} {b : Bool}
/-- the type of a value, as the fragment's deciders take it; for an instance its class -/
inductive TyOf (K : PySem.W.Frag) (H : Hp) : V → Value → Prop where
  | non : TyOf K H .non (.type "NoneType")
  | bl (x : Bool) : TyOf K H (.bl x) (.type "bool")
  | int (i : Int) : TyOf K H (.int i) (.type "int")
  | str (x : Str) : TyOf K H (.str x) (.type "str")
  | flt (x : UInt64) : TyOf K H (.flt x) (.type "float")
  | lst {a : Addr} {xs : List V} (e : H a = some (.lst xs)) : TyOf K H (.ref a) (.type "list")
  | frz {a : Addr} {o : Obj} {xs : List V} (e : H a = some (.frz o (.lst xs))) : TyOf K H (.ref a) (.type "list")
  | tup {a : Addr} {xs : List V} (e : H a = some (.tup xs)) : TyOf K H (.ref a) (.type "tuple")
  | dK {a : Addr} {kvs : List (Key × V)} (e : H a = some (.dK kvs)) : TyOf K H (.ref a) (.type "dict")
  | dT {a : Addr} {kvs : List (List Key × V)} (e : H a = some (.dT kvs)) : TyOf K H (.ref a) (.type "dict")
  | ins {a C dx : Addr} {fs : List (Str × V)} (e : H a = some (.ins C dx fs)) (cl : Cls K C) (ha : PySem.W.findIn K (.ref C) "__class__" = some (some (.builtin "object.__class__")))
      (hn : PySem.W.specialIn K (.builtin "object.__class__") "__get__" = some (some (.builtin "getset_descriptor.__get__"))) (htk : PySem.W.takesIn K (.builtin "object.__class__") = some true)
      (hm : PySem.W.mroIn K C (.type "object") = some true) : TyOf K H (.ref a) (.ref C)
end
end L2

namespace L2
open PySem PySem.Spec PyProof.Rows

/-! ### room -/
structure Room (k : Nat) (A : Around) : Prop where
  hd : A.handled = none
  dp : A.depth + 3 * k + 5 < recursionLimit
  un : A.units + 16 * k + 200 < cLine
theorem Room.mono {j k : Nat} {A : Around} (r : Room k A) (h : j ≤ k) : Room j A := ⟨r.hd, by have := r.dp; omega, by have := r.un; omega⟩
theorem Room.deeper {k : Nat} {A : Around} (r : Room (k + 1) A) (env : Env) : Room k (A.deeper env) :=
  ⟨r.hd, by have := r.dp; show A.depth + 1 + 3 * k + 5 < _; omega, by have := r.un; show A.units + 3 + 16 * k + 200 < _; omega⟩
theorem make_depth {A : Around} {C : Addr} {us : List Value} {kw : List (Str × Value)} : (A.under (.builtin "type.__call__" ⟨.ref C :: us, kw⟩)).depth = A.depth + 1 := by
  first | rfl | simp [Around.under, Code.weight, Code.isCreation, Code.isGuard, Code.isCaller, Code.frames, Code.isFrame, guardIds]
theorem make_units {A : Around} {C : Addr} {us : List Value} {kw : List (Str × Value)} : (A.under (.builtin "type.__call__" ⟨.ref C :: us, kw⟩)).units = A.units + 1 := by
  first | rfl | simp [Around.under, Code.cUnits, Code.frames, Code.isFrame]
theorem Room.make {k : Nat} {A : Around} (r : Room (k + 1) A) (C : Addr) (us : List Value) (kw : List (Str × Value)) : Room k (A.under (.builtin "type.__call__" ⟨.ref C :: us, kw⟩)) :=
  ⟨r.hd, by have := r.dp; rw [make_depth]; omega, by have := r.un; rw [make_units]; omega⟩
theorem Room.depth {k : Nat} {A : Around} (r : Room k A) : A.depth < recursionLimit := by have := r.dp; omega
theorem Room.units {k : Nat} {A : Around} (r : Room k A) : A.units + 64 < cLine := by have := r.un; omega

/-! ### argument lists and displays -/
def tNil : TA := fun _ H Q => Q [] H
def tCons (ta : TE) (tr : TA) : TA := fun σ H Q => ta σ H fun x H1 => tr σ H1 fun xs H2 => Q (x :: xs) H2
section
variable {X : Cx} {e : Expr} {es : List Expr} {te : TE} {t : TA} {pos : Pos}
theorem pa_nil : PA X [] tNil := fun _ _ _ _ H Q I h => Calls.spliced_nil ⟨[], H, I, .nil, h⟩
theorem pa_cons (ha : PE X e te) (hr : PA X es t) (hs : starEach (e :: es) X.env = (false, eval e X.env) :: starEach es X.env := by rfl) : PA X (e :: es) (tCons te t) := by
  intro pos pins s σ H Q I h
  rw [hs]
  show wpAny _ _ (spliced ((false, eval e X.env) :: backTo pos (starEach es X.env))) _ _ s
  refine Calls.spliced_cons (thn (ha pins s σ H _ I h) fun u s1 ⟨x, H1, I1, r1, q1⟩ => ?_)
  exact thn (hr pos pins s1 σ H1 _ I1 q1) fun us s2 ⟨xs, H2, I2, r2, q2⟩ => ⟨x :: xs, H2, I2, .cons r1 r2, q2⟩

/-- a tuple, a list of written items -/
def tTup (t : TA) : TE := fun σ H Q => t σ H fun xs H1 => xs.length ≤ sizeLine ∧ ∀ p, H1 p = none → Q (.ref p) (upd H1 p (.tup xs))
def tLst (t : TA) : TE := fun σ H Q => t σ H fun xs H1 => xs.length ≤ sizeLine ∧ ∀ p, H1 p = none → Q (.ref p) (upd H1 p (.lst xs))
theorem pe_tup {x1} (h : PA X es t) : PE X (.Tuple es x1 pos) (tTup t) := by
  intro pins s σ H Q I hq
  refine wpAny_Tuple_spliced (thn (h pos pins s σ H _ I hq) fun us s1 ⟨xs, H1, I1, r, z, q⟩ => ⟨by rw [← r.length]; exact z, ?_⟩)
  have hf : H1 s1.heap.objs.size = none := I1.hok.fresh (Nat.le_refl _)
  refine ⟨.ref s1.heap.objs.size, upd H1 s1.heap.objs.size (.tup xs), I1.laid (t' := s1.toks) (fun b u e => Heap.get?_push_of_some _ e) (Nat.le_refl _) ?_, rfl, q _ hf⟩
  exact ⟨z, us, r, ⟨_, Heap.get?_push_size _ rfl, rfl, _, rfl⟩⟩
theorem pe_lst (h : PA X es t) : PE X (.List es pos) (tLst t) := by
  intro pins s σ H Q I hq
  refine wpAny_List_spliced (thn (h pos pins s σ H _ I hq) fun us s1 ⟨xs, H1, I1, r, z, q⟩ => ⟨by rw [← r.length]; exact z, ?_⟩)
  have hf : H1 s1.heap.objs.size = none := I1.hok.fresh (Nat.le_refl _)
  refine ⟨.ref s1.heap.objs.size, upd H1 s1.heap.objs.size (.lst xs), I1.laid (t' := s1.toks) (fun b u e => Heap.get?_push_of_some _ e) (Nat.le_refl _) ?_, rfl, q _ hf⟩
  exact ⟨z, us, 0, r, Heap.get?_push_size _ rfl⟩
end

/-! ### what a def promises -/
/-- a def's promise: the bound arguments in the parameters' order, the heap, the wanted end, the wanted exception -/
abbrev Sp := List V → Hp → VK → XK → Prop
/-- how an exception lies behind a call (file 08 gives it): the callers' frames, abstract heap and state ahead of the call, the wish, the exception, the state -/
abbrev CXT := List Env → Hp → Shared → XK → Value → Shared → Prop

/-- the state at a call -/
structure Env0 (P : Program) (w : World) (K : PySem.W.Frag) (mg : Str → Option Value) (base : Heap) (A : Around) (outer : List Env) (s : Shared) (H : Hp) : Prop where
  frames : A.frames = some outer
  mod : Mod K mg base
  bs : ∀ b o, base.get? b = some o → s.heap.get? b = some o ∧ H b = none
  bsz : base.objs.size ≤ s.heap.objs.size
  funs : s.heap.FunFrames base outer
  frf : ∀ b ∈ frs outer, H b = none
  hok : HOk P w H s.heap
  bare : AllBare s.gens
/-- a call's end -/
def CE (outer : List Env) (P : Program) (w : World) (H : Hp) (s : Shared) (Q : VK) (u : Value) (s' : Shared) : Prop :=
  ∃ v H', s'.os = s.os ∧ AllBare s'.gens ∧ Un (frs outer) [] H H' s.heap s'.heap ∧ HOk P w H' s'.heap ∧ RelV v u ∧ Q v H'
def CR (CX : CXT) (outer : List Env) (P : Program) (w : World) (H : Hp) (s : Shared) (Q : VK) (E : XK) (r : Result) (s' : Shared) : Prop :=
  match r with
  | .ok (.ret u) => CE outer P w H s Q u s'
  | .ok _ => False
  | .error e => CX outer H s E e s'
structure FnOk (P : Program) (w : World) (K : PySem.W.Frag) (mg : Str → Option Value) (base : Heap) (CX : CXT) (k : Nat) (f : Addr) (fd : FuncData) (ps : List Str) (sp : Sp) : Prop where
  len : ∀ vs H Q E, sp vs H Q E → vs.length = ps.length
  run : ∀ (A : Around) (outer : List Env) (s : Shared) (H : Hp) (args : Args) (us : List Value) (vs : List V) (Q : VK) (E : XK), Room k A → Env0 P w K mg base A outer s H → BindsTo s fd args (ps.zip us) → Vals vs us → sp vs H Q E →
    codeAny (model P w) A (.call (.ref f) args) (CR CX outer P w H s Q E) s
theorem FnOk.mono {P : Program} {w : World} {K : PySem.W.Frag} {mg : Str → Option Value} {base : Heap} {CX : CXT} {j k : Nat} {f : Addr} {fd : FuncData} {ps : List Str} {sp : Sp} (F : FnOk P w K mg base CX j f fd ps sp) (h : j ≤ k) :
    FnOk P w K mg base CX k f fd ps sp := ⟨F.len, fun A outer s H args us vs Q E hr => F.run A outer s H args us vs Q E (hr.mono h)⟩

theorem Env0.make {P : Program} {w : World} {K : PySem.W.Frag} {mg : Str → Option Value} {base : Heap} {A : Around} {outer : List Env} {s : Shared} {H : Hp} (e : Env0 P w K mg base A outer s H) (C : Addr) (us : List Value) (kw : List (Str × Value)) :
    Env0 P w K mg base (A.under (.builtin "type.__call__" ⟨.ref C :: us, kw⟩)) outer s H := ⟨by first | exact e.frames | (simpa [Around.under, Code.envs, Code.isFrame, pushEnvs] using e.frames), e.mod, e.bs, e.bsz, e.funs, e.frf, e.hok, e.bare⟩

section
variable {X : Cx} {pins : List (Addr × Obj)} {σ : St} {H : Hp} {s s' : Shared}
/-- from a body: what a callee wants -/
theorem Inv.env0 (I : Inv X pins σ H s) : Env0 X.prog X.w X.K X.mg X.base X.A X.stack s H :=
  ⟨I.ok.frames, I.ok.mod, I.bs, Nat.le_trans I.ok.bsz I.sz, I.stack, I.stkFree, I.hok, I.bare⟩
/-- behind a call -/
theorem Inv.after {Q : VK} {u : Value} (I : Inv X pins σ H s) (h : CE X.stack X.prog X.w H s Q u s') : EP X pins σ Q u s' := by
  obtain ⟨v, H', os, bare, un, hok, r, q⟩ := h
  obtain ⟨hh, g, d, t, os'⟩ := s'
  obtain rfl : os' = s.os := os
  exact ⟨v, H', I.call (h' := hh) (g' := g) (d' := d) (t' := t) (ch := []) un hok bare (fun b z => absurd z (by simp)), r, q⟩
end

/-! ### calls -/
/-- f(..): the written arguments, then the defaults dvs; E: what is wanted of an exception -/
def tCall (sp : Sp) (dvs : List V) (E : XK) (t : TA) : TE := fun σ H Q => t σ H fun vs H1 => sp (vs ++ dvs) H1 Q E
/-- o.m(..) of an instance of the class at C -/
def tMeth (C : Addr) (m : Str) (sp : Sp) (dvs : List V) (E : XK) (ta : TE) (t : TA) : TE := fun σ H Q => ta σ H fun x H1 => ∃ a dx fs, x = .ref a ∧ H1 a = some (.ins C dx fs) ∧ fs.lookup m = none ∧
  t σ H1 fun vs H2 => sp (x :: (vs ++ dvs)) H2 Q E
/-- C(..): a new instance and its dict, then __init__ -/
def tMake (C : Addr) (sp : Sp) (dvs : List V) (E : XK) (t : TA) : TE := fun σ H Q => t σ H fun vs H1 => ∀ x dx, H1 x = none → H1 dx = none → dx ≠ x →
  sp (.ref x :: (vs ++ dvs)) (upd (upd H1 dx (.own x)) x (.ins C dx [])) (fun v H2 => v = .non ∧ Q (.ref x) H2) E

/-- how the parameters are bound: us the positional arguments, kw the keywords' values by name, ds the defaults that fill up -/
def Binds (K : PySem.W.Frag) (fd : FuncData) (ps : List Str) (ds : List Value) : Prop :=
  ∀ (s : Shared) (us : List Value), K.In s.heap → (us ++ ds).length = ps.length → BindsTo s fd ⟨us, []⟩ (ps.zip (us ++ ds))
/-- every parameter is given -/
theorem Binds.all {K : PySem.W.Frag} {fd : FuncData} {ps : List Str} (h : ∀ us : List Value, us.length = ps.length → bindArgs fd ⟨us, []⟩ = pure (ps.zip us)) : Binds K fd ps [] := fun s us _ hl => by
  rw [List.append_nil] at hl ⊢
  exact .of_eq (h us hl)

/-- an exception of a callee reaches what this body wants of exceptions -/
def Passes (CX : CXT) (X : Cx) (E : XK) : Prop := ∀ (pins : List (Addr × Obj)) (σ : St) (H : Hp) (s : Shared) (e : Value) (s' : Shared), Inv X pins σ H s → CX X.stack H s E e s' → X.xe e s'

section
variable {X : Cx} {CX : CXT} {k : Nat} {f C : Addr} {fd : FuncData} {ps : List Str} {sp : Sp} {dvs : List V} {ds : List Value} {E : XK} {x m : Str} {p pos apos : Pos} {e o : Expr} {es : List Expr} {ta : TE} {t : TA}

/-- the callee runs -/
theorem run_fn {pins : List (Addr × Obj)} {σ : St} {H : Hp} {s : Shared} {Q : VK} {us : List Value} {vs : List V} (F : FnOk X.prog X.w X.K X.mg X.base CX k f fd ps sp) (hr : Room k X.A) (hb : Binds X.K fd ps ds) (hd : Vals dvs ds) (hx : Passes CX X E)
    (I : Inv X pins σ H s) (r : Vals vs us) (h : sp (vs ++ dvs) H Q E) : wpAny (model X.prog X.w) X.A (call (.ref f) us) (EP X pins σ Q) X.xe s := by
  have r2 : Vals (vs ++ dvs) (us ++ ds) := r.append hd
  have hl : (us ++ ds).length = ps.length := by rw [← r2.length]; exact F.len _ _ _ _ h
  refine wpAny_call (codeAny_mono (F.run X.A X.stack s H ⟨us, []⟩ (us ++ ds) (vs ++ dvs) Q E hr I.env0 (hb s us I.kIn hl) r2 h) fun r s' hq => ?_)
  cases r with
  | error e => exact hx pins σ H s e s' I hq
  | ok fl =>
    cases fl with
    | ret u => exact I.after hq
    | next => exact False.elim hq
    | brk => exact False.elim hq
    | cont => exact False.elim hq

theorem pe_call (F : FnOk X.prog X.w X.K X.mg X.base CX k f fd ps sp) (hr : Room k X.A) (hg : Gl X x) (hm : X.mg x = some (.ref f)) (hk : PySem.W.keepIn X.K (.ref f) = true) (hb : Binds X.K fd ps ds) (hd : Vals dvs ds) (hx : Passes CX X E)
    (ha : PA X (e :: es) t) (hdb : (x == ("__debug__" : Str)) = false := by decide) (he : starEach (e :: es) X.env = (false, eval e X.env) :: starEach es X.env := by rfl) (hpl : (backTo pos (starEach es X.env)).any (·.1) = false := by rfl) :
    PE X (.Call (.Name x p) (e :: es) [] pos) (tCall sp dvs E t) := by
  intro pins s σ H Q I h
  refine wpAny_Call_Name_kw (ld_glob I hg hm ?_ hdb)
  refine PySem.W.callWith_K (h₀ := X.base) I.ok.mod.kin hk (thn (ha pos pins s σ H _ I h) fun us s1 ⟨vs, H1, I1, r, q⟩ => ⟨I1.kIn, ?_⟩) he hpl
  exact run_fn F hr hb hd hx I1 r q

/-- o.m(e, ..) -/
theorem pe_meth {pl : Sem Bool} (he : PE X o ta) (c : Cls X.K C) (hm : Meth X.K C m f) (F : FnOk X.prog X.w X.K X.mg X.base CX k f fd ps sp) (hr : Room k X.A) (hb : Binds X.K fd ps ds) (hd : Vals dvs ds) (hx : Passes CX X E) (ha : PA X (e :: es) t)
    (hst : starEach (e :: es) X.env = (false, eval e X.env) :: starEach es X.env := by rfl) (hpl : (backTo pos (starEach es X.env)).any (·.1) = false := by rfl)
    (ht : eval (.Call (.Attribute o m apos) (e :: es) [] pos) X.env = (do
      let ov ← eval o X.env
      standAt apos.atName
      let (f, first) ← holding [ov] (getMethod ov m pl)
      callWith pos f first (backTo pos (starEach (e :: es) X.env)) (backToKw pos (keywordEach [] X.env))) := by rfl) :
    PE X (.Call (.Attribute o m apos) (e :: es) [] pos) (tMeth C m sp dvs E ta t) := by
  intro pins s σ H Q I h
  refine PySem.W.methodCall_KW (pl := pl) (thn (he pins s σ H _ I h) fun u s1 ⟨x, H1, I1, rx, a, dx, fs, ex, ea, l, q⟩ => ?_) ht
  subst ex
  obtain rfl : u = Value.ref a := rx
  refine getmeth_ok I1 ea c hm l ?_
  refine PySem.W.callWith_K (first := [.ref a]) (h₀ := X.base) I.ok.mod.kin hm.kp (thn (ha pos pins s1 σ H1 _ I1 q) fun us s2 ⟨vs, H2, I2, r, q2⟩ => ⟨I2.kIn, ?_⟩) hst hpl
  exact run_fn (us := .ref a :: us) (vs := .ref a :: vs) F hr hb hd hx I2 (.cons rfl r) q2
/-- o.m() -/
theorem pe_meth0 {pl : Sem Bool} (he : PE X o ta) (c : Cls X.K C) (hm : Meth X.K C m f) (F : FnOk X.prog X.w X.K X.mg X.base CX k f fd ps sp) (hr : Room k X.A) (hb : Binds X.K fd ps ds) (hd : Vals dvs ds) (hx : Passes CX X E)
    (ht : eval (.Call (.Attribute o m apos) [] [] pos) X.env = (do
      let ov ← eval o X.env
      standAt apos.atName
      let (f, first) ← holding [ov] (getMethod ov m pl)
      callWith pos f first (backTo pos (starEach [] X.env)) (backToKw pos (keywordEach [] X.env))) := by rfl) :
    PE X (.Call (.Attribute o m apos) [] [] pos) (tMeth C m sp dvs E ta tNil) := by
  intro pins s σ H Q I h
  refine PySem.W.methodCall_KW (pl := pl) (thn (he pins s σ H _ I h) fun u s1 ⟨x, H1, I1, rx, a, dx, fs, ex, ea, l, q⟩ => ?_) ht
  subst ex
  obtain rfl : u = Value.ref a := rx
  refine getmeth_ok I1 ea c hm l ?_
  exact PySem.W.callWith_K0 (first := [.ref a]) I1.kIn hm.kp (run_fn (us := [.ref a]) (vs := [.ref a]) F hr hb hd hx I1 (.cons rfl .nil) q)

/-- what a class must have to be made -/
structure Mk (K : PySem.W.Frag) (C f : Addr) : Prop where
  makes : PySem.W.makesIn K C = true
  init : PySem.W.findIn K (.ref C) "__init__" = some (some (.ref f))
  fn : PySem.W.isFn K (.ref f) = true
  kp : PySem.W.keepIn K (.ref C) = true

theorem run_make {pins : List (Addr × Obj)} {σ : St} {H : Hp} {s : Shared} {Q : VK} {us : List Value} {vs : List V} (M : Mk X.K C f) (F : FnOk X.prog X.w X.K X.mg X.base CX k f fd ps sp) (hr : Room (k + 1) X.A) (hb : Binds X.K fd ps ds) (hd : Vals dvs ds)
    (hx : Passes CX X E) (I : Inv X pins σ H s) (r : Vals vs us)
    (h : ∀ x dx, H x = none → H dx = none → dx ≠ x → sp (.ref x :: (vs ++ dvs)) (upd (upd H dx (.own x)) x (.ins C dx [])) (fun v H2 => v = .non ∧ Q (.ref x) H2) E) :
    wpAny (model X.prog X.w) X.A (call (.ref C) us) (EP X pins σ Q) X.xe s := by
  have hq := h (s.heap.objs.size + 1) s.heap.objs.size (I.hok.fresh (Nat.le_succ _)) (I.hok.fresh (Nat.le_refl _)) (Nat.ne_of_lt (Nat.lt_succ_self _))
  have I2 := Inv.made (C := C) I
  have r2 : Vals (V.ref (s.heap.objs.size + 1) :: (vs ++ dvs)) (Value.ref (s.heap.objs.size + 1) :: (us ++ ds)) := .cons rfl (r.append hd)
  have hl : (Value.ref (s.heap.objs.size + 1) :: us ++ ds).length = ps.length := by
    have e := r2.length
    rw [F.len _ _ _ _ hq] at e
    exact e.symm
  refine wpAny_call (make_map (f := f) I.kIn M.makes M.init (beq_iff_eq.mp M.fn) (codeAny_mono (F.run _ X.stack _ _ ⟨Value.ref (s.heap.objs.size + 1) :: us, []⟩ (Value.ref (s.heap.objs.size + 1) :: (us ++ ds)) _ _ E (hr.make C us [])
    (I2.env0.make C us []) (hb _ (Value.ref (s.heap.objs.size + 1) :: us) I2.kIn hl) r2 hq) fun r s' hq' => ?_))
  cases r with
  | error e => exact hx pins σ _ _ e s' I2 hq'
  | ok fl =>
    cases fl with
    | ret u =>
      obtain ⟨v, H', I3, rv, ev, q3⟩ := I2.after hq'
      subst ev
      exact ⟨rv, ⟨V.ref (s.heap.objs.size + 1), H', I3, rfl, q3⟩⟩
    | next => exact False.elim hq'
    | brk => exact False.elim hq'
    | cont => exact False.elim hq'
theorem pe_make (M : Mk X.K C f) (F : FnOk X.prog X.w X.K X.mg X.base CX k f fd ps sp) (hr : Room (k + 1) X.A) (hg : Gl X x) (hm : X.mg x = some (.ref C)) (hb : Binds X.K fd ps ds) (hd : Vals dvs ds) (hx : Passes CX X E)
    (ha : PA X (e :: es) t) (hdb : (x == ("__debug__" : Str)) = false := by decide) (he : starEach (e :: es) X.env = (false, eval e X.env) :: starEach es X.env := by rfl) (hpl : (backTo pos (starEach es X.env)).any (·.1) = false := by rfl) :
    PE X (.Call (.Name x p) (e :: es) [] pos) (tMake C sp dvs E t) := by
  intro pins s σ H Q I h
  refine wpAny_Call_Name_kw (ld_glob I hg hm ?_ hdb)
  refine PySem.W.callWith_K (h₀ := X.base) I.ok.mod.kin M.kp (thn (ha pos pins s σ H _ I h) fun us s1 ⟨vs, H1, I1, r, q⟩ => ⟨I1.kIn, ?_⟩) he hpl
  exact run_make M F hr hb hd hx I1 r q
theorem pe_make0 (M : Mk X.K C f) (F : FnOk X.prog X.w X.K X.mg X.base CX k f fd ps sp) (hr : Room (k + 1) X.A) (hg : Gl X x) (hm : X.mg x = some (.ref C)) (hb : Binds X.K fd ps ds) (hd : Vals dvs ds) (hx : Passes CX X E)
    (hdb : (x == ("__debug__" : Str)) = false := by decide) : PE X (.Call (.Name x p) [] [] pos) (tMake C sp dvs E tNil) := by
  intro pins s σ H Q I h
  refine wpAny_Call_Name_kw (ld_glob I hg hm ?_ hdb)
  exact PySem.W.callWith_K0 I.kIn M.kp (run_make (us := []) M F hr hb hd hx I .nil h)
end

/-! ### keywords -/
/-- the values of the keywords, from the left -/
def PK (X : Cx) (kws : List Keyword) (t : TA) : Prop :=
  ∀ (pos : Pos) (pins : List (Addr × Obj)) (s : Shared) (σ : St) (H : Hp) (Q : List V → Hp → Prop), Inv X pins σ H s → t σ H Q → wpAny (model X.prog X.w) X.A (evalAll ((backToKw pos (keywordEach kws X.env)).map (·.2))) (AP X pins σ Q) X.xe s
section
variable {X : Cx} {CX : CXT} {k : Nat} {f C : Addr} {fd : FuncData} {ps ks : List Str} {sp : Sp} {E : XK} {x m : Str} {p pos apos kpos : Pos} {e o : Expr} {es : List Expr} {kws : List Keyword} {te ta : TE} {t tk : TA} {nm : Option Str}
theorem pk_nil : PK X [] tNil := fun _ _ _ _ H Q I h => wpAny_evalAll_nil ⟨[], H, I, .nil, h⟩
theorem pk_cons (ha : PE X e te) (hr : PK X kws t) : PK X (⟨nm, e, kpos⟩ :: kws) (tCons te t) := by
  intro pos pins s σ H Q I h
  show wpAny _ _ (evalAll ((do let v ← eval e X.env; standAt pos; pure v) :: (backToKw pos (keywordEach kws X.env)).map (·.2))) _ _ s
  refine wpAny_evalAll_cons (wpAny_bind (thn (ha pins s σ H _ I h) fun u s1 ⟨x, H1, I1, r1, q1⟩ => wpAny_bind (wpAny_standAt (wpAny_pure ?_))))
  exact thn (hr pos pins s1 σ H1 _ I1 q1) fun us s2 ⟨xs, H2, I2, r2, q2⟩ => ⟨x :: xs, H2, I2, .cons r1 r2, q2⟩

/-- how a call with keywords binds: g puts the positional values us and the keywords' values ws (names ks) in the parameters' order, defaults among them -/
structure KBinds (K : PySem.W.Frag) (fd : FuncData) (ps ks : List Str) (g : List Value → List Value → List Value) (gV : List V → List V → List V) : Prop where
  to : ∀ (s : Shared) (us ws : List Value), K.In s.heap → (g us ws).length = ps.length → BindsTo s fd ⟨us, ks.zip ws⟩ (ps.zip (g us ws))
  rel : ∀ {vs : List V} {us : List Value} {zs : List V} {ws : List Value}, Vals vs us → Vals zs ws → Vals (gV vs zs) (g us ws)
def tCallK (sp : Sp) (gV : List V → List V → List V) (E : XK) (t tk : TA) : TE := fun σ H Q => t σ H fun vs H1 => tk σ H1 fun zs H2 => sp (gV vs zs) H2 Q E
variable {g : List Value → List Value → List Value} {gV : List V → List V → List V}
end

/-! ### a def's body keeps its promise -/
/-- names: the parameters first -/
structure FnScope (N P : List Str) (sc : Scope) : Prop where
  kind : sc.kind = .function
  co : sc.isCoroutine = false
  gen : sc.isGenerator = false
  nd : N.Nodup
  pre : N.take P.length = P
  par : ∀ x ∈ P, sc.names.lookup x = some .local ∨ sc.names.lookup x = some .cell
  nofree : ∀ y ∈ sc.names, y.2 ≠ .free

theorem bindL_out {kindOf : Str → Option NameKind} {x : Str} : ∀ {binds : List (Str × Value)} {m : Str → Option Value}, (∀ v, (x, v) ∉ binds) → bindL kindOf binds m x = m x
  | [], _, _ => rfl
  | (n, v) :: r, m, h => by
    unfold bindL
    rw [bindL_out fun w hw => h w (List.mem_cons_of_mem _ hw)]
    split
    · have : x ≠ n := by rintro rfl; exact h v List.mem_cons_self
      simp [this]
    · rfl
theorem bindC_out {kindOf : Str → Option NameKind} {x : Str} : ∀ {binds : List (Str × Value)} {m : Str → Option Value}, (∀ v, (x, v) ∉ binds) → bindC kindOf binds m x = m x
  | [], _, _ => rfl
  | (n, v) :: r, m, h => by
    unfold bindC
    rw [bindC_out fun w hw => h w (List.mem_cons_of_mem _ hw)]
    split
    · rfl
    · have : x ≠ n := by rintro rfl; exact h v List.mem_cons_self
      simp [this]
theorem bindL_get {kindOf : Str → Option NameKind} {x : Str} {v : Value} : ∀ {P : List Str} {vs : List Value} {i : Nat} {m : Str → Option Value}, P.Nodup → P[i]? = some x → vs[i]? = some v → kindOf x = some .local →
    bindL kindOf (P.zip vs) m x = some v
  | [], _, _, _, _, h, _, _ => by simp at h
  | _ :: _, [], _, _, _, _, h, _ => by simp at h
  | p :: P, w :: vs, 0, m, nd, h1, h2, hk => by
    simp at h1 h2; subst h1; subst h2
    show bindL kindOf ((p, w) :: P.zip vs) m p = _
    unfold bindL
    rw [bindL_out fun v hv => (List.nodup_cons.mp nd).1 (List.of_mem_zip hv).1, if_pos hk]
    simp
  | p :: P, w :: vs, i + 1, m, nd, h1, h2, hk => by
    show bindL kindOf ((p, w) :: P.zip vs) m x = _
    unfold bindL
    exact bindL_get (i := i) (List.nodup_cons.mp nd).2 (by simpa using h1) (by simpa using h2) hk
theorem bindC_get {kindOf : Str → Option NameKind} {x : Str} {v : Value} : ∀ {P : List Str} {vs : List Value} {i : Nat} {m : Str → Option Value}, P.Nodup → P[i]? = some x → vs[i]? = some v → kindOf x ≠ some .local →
    bindC kindOf (P.zip vs) m x = some v
  | [], _, _, _, _, h, _, _ => by simp at h
  | _ :: _, [], _, _, _, _, h, _ => by simp at h
  | p :: P, w :: vs, 0, m, nd, h1, h2, hk => by
    simp at h1 h2; subst h1; subst h2
    show bindC kindOf ((p, w) :: P.zip vs) m p = _
    unfold bindC
    rw [bindC_out fun v hv => (List.nodup_cons.mp nd).1 (List.of_mem_zip hv).1, if_neg hk]
    simp
  | p :: P, w :: vs, i + 1, m, nd, h1, h2, hk => by
    show bindC kindOf ((p, w) :: P.zip vs) m x = _
    unfold bindC
    exact bindC_get (i := i) (List.nodup_cons.mp nd).2 (by simpa using h1) (by simpa using h2) hk

/-- the names' values at the entry -/
def start (N : List Str) (vs : List V) : St := vs.map some ++ List.replicate (N.length - vs.length) none

/-- the context of a def's body, at its entry; an exception leaves the frame, then lies as CX says -/
def cxOf (CX : CXT) (P : Program) (w : World) (K : PySem.W.Frag) (mg : Str → Option Value) (base : Heap) (N : List Str) (qual : Str) (scope : Scope) (f : Addr) (cd : Value) (A : Around) (outer : List Env) (s : Shared) (H : Hp) (E : XK) : Cx where
  prog := P
  w := w
  K := K
  mg := mg
  base := base
  A := A.deeper (envOfC qual scope s.heap.objs.size f cd)
  N := N
  s_0 := s
  H_0 := H
  env := envOfC qual scope s.heap.objs.size f cd
  outer := outer
  stack := envOfC qual scope s.heap.objs.size f cd :: outer
  ex := []
  calm := true
  fn := fun _ => true
  pn := []
  xe := fun e s' => wpAny (model P w) (A.deeper (envOfC qual scope s.heap.objs.size f cd)) (leaving (envOfC qual scope s.heap.objs.size f cd) e) (fun _ s'' => CX outer H s E e s'') (fun e' s'' => CX outer H s E e' s'') s'

theorem cell_has {sc : Scope} {n : Nat} {x : Str} (h : sc.names.lookup x = some .cell) : ∃ c, (cellsFrom n sc.names []).lookup x = some c := by
  have q := PySem.W.cellsFrom_some sc.names n [] (.inl h)
  exact Option.isSome_iff_exists.mp q

theorem inv_start {CX : CXT} {P : Program} {w : World} {K : PySem.W.Frag} {mg : Str → Option Value} {base : Heap} {N ps : List Str} {qual : Str} {scope : Scope} {f : Addr} {cd : Value} {A : Around} {outer : List Env} {s s1 : Shared} {H : Hp} {E : XK} {us : List Value} {vs : List V}
    (S : FnScope N ps scope) (hd : A.handled = none) (e0 : Env0 P w K mg base A outer s H) (hl : vs.length = ps.length) (r : Vals vs us)
    (x : InCallC s s.heap.objs.size (bindL (envOfC qual scope s.heap.objs.size f cd).kindOf (ps.zip us) fun _ => none) (cellsFrom (s.heap.objs.size + 1) scope.names []) (bindC (envOfC qual scope s.heap.objs.size f cd).kindOf (ps.zip us) fun _ => none) s1) :
    Inv (cxOf CX P w K mg base N qual scope f cd A outer s H E) [] (start N vs) H s1 := by
  have hpl : ps.length ≤ N.length := by have := congrArg List.length S.pre; rw [List.length_take] at this; omega
  obtain ⟨h1, tk, rfl, hk⟩ := x.done
  have noA : ∀ b : Addr, b ∉ (cxOf CX P w K mg base N qual scope f cd A outer s H E).ex := fun b z => absurd (show b ∈ ([] : List Addr) from z) (by simp)
  refine ⟨⟨e0.mod, S.kind, rfl, rfl, Nat.le_refl _, fun y z c h1 h2 => ?_, fun y hy => ?_, fun y c _ h => ?_, fun _ => hd, Around.frames_deeper e0.frames, .inr ⟨rfl, rfl⟩, fun b z => absurd z (noA b), e0.bs, e0.bsz, fun b _ _ => noA b, fun b z => absurd z (noA b), e0.funs, e0.frf⟩,
    rfl, e0.bare, Un.kept hk, ⟨_, x.toInCall.ns, fun i y v h1 h2 h3 => ?_⟩, fun y c h => ⟨_, x.cell y c h⟩, e0.hok.fresh (Nat.le_refl _), fun y c h => ?_, fun p hp => absurd (show p ∈ ([] : List (Addr × Obj)) from hp) (by simp), e0.hok.kept hk, ?_⟩
  · exact name_of_addr x.apart (PySem.mem_of_lookup h1) (PySem.mem_of_lookup h2)
  · have hy : scope.names.lookup y = some .cell ∨ scope.names.lookup y = some .free := hy
    rcases hy with hy | hy
    · exact cell_has hy
    · exact absurd rfl (S.nofree _ (PySem.mem_of_lookup hy))
  · exact Nat.le_of_lt (x.above y c (PySem.mem_of_lookup h))
  · have hi : i < vs.length := by
      unfold start at h2
      by_cases hi : i < vs.length
      · exact hi
      · rw [List.getElem?_append_right (by simpa using hi)] at h2
        rw [List.getElem?_replicate] at h2
        split at h2 <;> cases h2
    have ha : vs[i]? = some v := by
      unfold start at h2
      rw [List.getElem?_append_left (by simpa using hi), List.getElem?_map] at h2
      cases e : vs[i]? with
      | none => rw [e] at h2; cases h2
      | some a => rw [e] at h2; cases h2; rfl
    obtain ⟨u, hu, rv⟩ := r.get ha
    have hp : ps[i]? = some y := by
      rw [← S.pre, List.getElem?_take_of_lt (by omega)]; exact h1
    have ndP : ps.Nodup := by rw [← S.pre]; exact S.nd.sublist (List.take_sublist _ _)
    refine ⟨u, rv, ?_⟩
    rcases S.par y (List.mem_of_getElem? hp) with k | k
    · exact .inl ⟨k, bindL_get ndP hp hu k⟩
    · obtain ⟨c, e⟩ := cell_has (n := s.heap.objs.size + 1) k
      refine .inr ⟨.inl k, c, e, ?_⟩
      have q := x.cell y c e
      rw [bindC_get ndP hp hu (by show scope.names.lookup y ≠ _; rw [k]; decide)] at q
      exact q
  · exact e0.hok.fresh (Nat.le_of_lt (x.above y c (PySem.mem_of_lookup h)))
  · unfold start
    show _ = N.length
    rw [List.length_append, List.length_map, List.length_replicate]
    omega

/-- THE RULE: a def (or a method) of the text, by its body. The body's reading t is chosen for each entry; it is run at the parameters' values -/
theorem fn_of {CX : CXT} {P : Program} {w : World} {K : PySem.W.Frag} {mg : Str → Option Value} {base : Heap} {k : Nat} {f : Addr} {name qual : Str} {params : Arguments} {body : List Stmt} {scope : Scope} {dV kV doc pm cdv ct oc : Value} {an od : Option Addr}
    {osl : Array (Option Value)} {N ps : List Str} {sp : Sp} (lk : K.lookup f = some ⟨oc, od, .func (PySem.W.fnOf name qual params body scope dV kV doc pm an cdv ct), osl⟩) (hcd : PySem.W.codeIn K cdv qual = true) (S : FnScope N ps scope)
    (len : ∀ vs H Q E, sp vs H Q E → vs.length = ps.length)
    (hbody : ∀ (A : Around) (outer : List Env) (s : Shared) (H : Hp) (vs : List V) (Q : VK) (E : XK), Room k (A.deeper (envOfC qual scope s.heap.objs.size f cdv)) → sp vs H Q E →
      ∃ t, PSs (cxOf CX P w K mg base N qual scope f cdv A outer s H E) body t ∧ t { nx := fun _ H' => Q .non H', rt := Q } (start N vs) H) :
    FnOk P w K mg base CX (k + 1) f (PySem.W.fnOf name qual params body scope dV kV doc pm an cdv ct) ps sp := by
  refine ⟨len, fun A outer s H args us vs Q E hr e0 hb r hsp => ?_⟩
  have hl := len _ _ _ _ hsp
  have KX : K.In s.heap := e0.mod.kin.keeps fun b o e => (e0.bs b o e).1
  have lim : s.heap.NoLimit := e0.mod.nolimit.keeps fun b o e => (e0.bs b o e).1
  have hkind : ∀ y ∈ ps.zip us, scope.names.lookup y.1 = some .local ∨ (scope.names.lookup y.1 = some .cell ∧ ((cellsFrom (s.heap.objs.size + 1) scope.names []).lookup y.1).isSome = true) := fun ⟨n, v⟩ hy => by
    rcases S.par n (List.of_mem_zip hy).1 with q | q
    · exact .inl q
    · exact .inr ⟨q, PySem.W.cellsFrom_some _ _ _ (.inl q)⟩
  refine codeAny_call_function hr.depth (KX _ _ lk) rfl S.co S.gen rfl (PySem.W.codeRec_of KX hcd) (hb _ _ _ _ ?_)
  refine wpAny_newFunctionEnv_cells S.kind hkind fun env he s1 x => ?_
  subst he
  refine ⟨lim.keeps x.toInCall.keep, codeAny_func ?_⟩
  obtain ⟨t, ht, hq⟩ := hbody A outer s H vs Q E (hr.deeper _) hsp
  have I : Inv (cxOf CX P w K mg base N qual scope f cdv A outer s H E) [] (start N vs) H s1 := inv_start S hr.hd e0 hl r x
  refine wpAny_mono (ht [] s1 (start N vs) H _ I hq) (fun fl s' hs => ?_) fun e s' hs => hs
  have fin : ∀ {σ' : St} {H' : Hp} {v : V} {u : Value}, Inv (cxOf CX P w K mg base N qual scope f cdv A outer s H E) [] σ' H' s' → RelV v u → Q v H' → CE outer P w H s Q u s' :=
    fun {σ' H' v u} J rv q => ⟨v, H', J.os, J.bare, J.base, J.hok, rv, q⟩
  cases fl with
  | ret u =>
    obtain ⟨v, σ', H', J, rv, q⟩ := hs
    exact fin J rv q
  | next =>
    obtain ⟨σ', H', J, q⟩ := hs
    exact fin (v := V.non) (u := Value.none) J rfl q
  | brk =>
    obtain ⟨_, _, _, q⟩ := hs
    exact False.elim q
  | cont =>
    obtain ⟨_, _, _, q⟩ := hs
    exact False.elim q
end L2

namespace L2
open PySem PySem.Spec PyProof.Rows
section
variable {X : Cx} {x : Str} {p pos : Pos} {e : Expr} {es : List Expr} {t : TA} {id T : String} {r : List V → Hp → VK → Prop}

def tCB (r : List V → Hp → VK → Prop) (t : TA) : TE := fun σ H Q => t σ H fun vs H1 => r vs H1 Q
/-- f(e, ..), f a built-in function -/
theorem pe_callB (hc : CallR X (.builtin id) r) (hg : Gl X x) (hm : X.mg x = none) (hv : bootBuiltins x = some (.builtin id)) (ha : PA X (e :: es) t) (hn : x ≠ "__name__" := by decide) (hdb : (x == ("__debug__" : Str)) = false := by decide)
    (he : starEach (e :: es) X.env = (false, eval e X.env) :: starEach es X.env := by rfl) (hpl : (backTo pos (starEach es X.env)).any (·.1) = false := by rfl) : PE X (.Call (.Name x p) (e :: es) [] pos) (tCB r t) := by
  intro pins s σ H Q I h
  refine wpAny_Call_Name_kw (ld_blt I hg hm hv ?_ hn hdb)
  exact PyProof.Rows.callWith_builtin1 (thn (ha pos pins s σ H _ I h) fun us s1 ⟨vs, H1, I1, r1, q1⟩ => hc pins s1 σ H1 vs us Q I1 r1 q1) he hpl
end
end L2

namespace HT
open PySem PyProof.Rows

/-- t < u of tuples of ints -/
def lexLt : List Int → List Int → Bool
  | [], [] => false
  | [], _ :: _ => true
  | _ :: _, [] => false
  | x :: xs, y :: ys => if x = y then lexLt xs ys else decide (x < y)


section
open PySem.SeqAt
open PySem.AutoSeq1 (wpAny_loadPart')
open PySem.MeetsSeq PySem.MeetsSeq2 PySem.MeetsSeq3

end

section
variable {prog : Program} {w : World} {A : Around} {E : Value → Shared → Prop} {s : Shared}



/-! ### t[a:b], not the whole -/
/-- a slice's bound as a place among n (d where it is left out) -/
def sIx (n d : Nat) : Option Int → Nat
  | none => d
  | some v => if v < 0 then (v + (n : Int)).toNat else min v.toNat n
theorem sIx_nat (n d k : Nat) : sIx n d (some (k : Int)) = min k n := by
  show (if (k : Int) < 0 then ((k : Int) + (n : Int)).toNat else min (k : Int).toNat n) = min k n
  rw [if_neg (by omega), Int.toNat_natCast]

end
end HT

namespace L2
open PySem PySem.Spec PyProof.Rows

/-! ### the parts of a slice -/
abbrev TO := St → Hp → (Option Int → Hp → Prop) → Prop
/-- a slice's part (left out, or an int) -/
def PO (X : Cx) (e : Option Expr) (t : TO) : Prop :=
  ∀ (pins : List (Addr × Obj)) (s : Shared) (σ : St) (H : Hp) (Q : Option Int → Hp → Prop), Inv X pins σ H s → t σ H Q →
    wpAny (model X.prog X.w) X.A (evalPart e X.env) (fun u s' => ∃ o H', Inv X pins σ H' s' ∧ IsPart u o ∧ Q o H') X.xe s
def tNoPart : TO := fun _ H Q => Q none H
def tPart (t : TE) : TO := fun σ H Q => t σ H fun x H1 => ∃ i, x = .int i ∧ Q (some i) H1


section
variable {X : Cx} {e : Expr} {te : TE} {lo hi : Option Expr} {tl th : TO} {pos p2 : Pos}

theorem po_none : PO X none tNoPart := by
  intro pins s σ H Q I h
  rw [evalPart_none]
  exact wpAny_pure ⟨none, H, I, .none, h⟩
theorem po_some (h : PE X e te) : PO X (some e) (tPart te) := by
  intro pins s σ H Q I hw
  rw [evalPart_some]
  refine thn (h pins s σ H _ I hw) fun u s1 ⟨x, H1, I1, r1, q1⟩ => ?_
  obtain ⟨i, rfl, q⟩ := q1
  obtain ⟨t, rfl⟩ := r1
  exact ⟨some i, H1, I1, .int i t, q⟩

/-- what a slice of a value is, by values: the slice object stands at sl -/
def SlR (X : Cx) (r : V → Option Int → Option Int → Hp → VK → Prop) : Prop :=
  ∀ (pins : List (Addr × Obj)) (s : Shared) (σ : St) (H : Hp) (x : V) (v vl vu : Value) (lo hi : Option Int) (sl : Addr) (Q : VK), Inv X pins σ H s → RelV x v → s.heap.IsSliceOf sl vl vu .none → IsPart vl lo → IsPart vu hi → r x lo hi H Q →
    ∃ T id, typeLookup (.type T) "__getitem__" = pure (some (.builtin id)) ∧ s.TypeIs v T ∧ wpAny (model X.prog X.w) X.A (getItem v (.ref sl)) (EP X pins σ Q) X.xe s
def tSl (r : V → Option Int → Option Int → Hp → VK → Prop) (te : TE) (tl th : TO) : TE := fun σ H Q => te σ H fun x H1 => tl σ H1 fun l H2 => th σ H2 fun u H3 => r x l u H3 Q
/-- a[lo:hi], any a -/
theorem pe_slice {r : V → Option Int → Option Int → Hp → VK → Prop} (hr : SlR X r) (he : PE X e te) (hl : PO X lo tl) (hu : PO X hi th) : PE X (.Subscript e (.Slice lo hi none p2) pos) (tSl r te tl th) := by
  intro pins s σ H Q I h
  refine Subscript_ (thn (he pins s σ H _ I h) fun v s1 ⟨x, H1, I1, r1, q1⟩ => ?_)
  refine wpAny_Slice (thn (hl pins s1 σ H1 _ I1 q1) fun vl s2 ⟨l, H2, I2, pl, q2⟩ => thn (hu pins s2 σ H2 _ I2 q2) fun vu s3 ⟨u, H3, I3, pu, q3⟩ => ?_)
  rw [evalPart_none]
  refine wpAny_pure ?_
  have I4 : Inv X pins σ H3 { s3 with heap := s3.heap.push { cls := .type "slice", data := .fields #[vl, vu, .none] } } := I3.kept (t' := s3.toks) fun b ob q => Heap.get?_push_of_some _ q
  obtain ⟨T, id, hT, ht, hg⟩ := hr pins { s3 with heap := s3.heap.push { cls := .type "slice", data := .fields #[vl, vu, .none] } } σ H3 x v vl vu l u s3.heap.objs.size Q I4 r1 (Heap.IsSliceOf.new ..) pl pu q3
  show wpAny (model X.prog X.w) X.A (subscriptTail e (.Slice lo hi none p2) v (.ref s3.heap.objs.size)) (EP X pins σ Q) X.xe { s3 with heap := s3.heap.push { cls := .type "slice", data := .fields #[vl, vu, .none] } }
  exact tail_any (ops := [.ref s3.heap.objs.size, v]) ht hT hg (by with_unfolding_all rfl)

/-- the items of xs[lo:hi] -/
def cutV (xs : List V) (lo hi : Option Int) : List V := (xs.drop (HT.sIx xs.length 0 lo)).take (HT.sIx xs.length xs.length hi - HT.sIx xs.length 0 lo)
theorem cutV_length (xs : List V) (lo hi : Option Int) : (cutV xs lo hi).length ≤ xs.length := by
  unfold cutV
  rw [List.length_take, List.length_drop]
  omega
/-- t[lo:hi], not the whole of it (the whole would be t itself) -/
def rSlT (K : PySem.W.Frag) : V → Option Int → Option Int → Hp → VK → Prop := fun x lo hi H Q => ∃ a xs, x = .ref a ∧ SqT K H a xs ∧
  ¬ (HT.sIx xs.length 0 lo = 0 ∧ HT.sIx xs.length xs.length hi = xs.length) ∧ ∀ p, H p = none → Q (.ref p) (upd H p (.tup (cutV xs lo hi)))

/-! ### t < u, t + u -/
def rLtT (K : PySem.W.Frag) : R2 := fun x y H Q => ∃ a b ns ms, x = .ref a ∧ y = .ref b ∧ SqT K H a (ns.map V.int) ∧ SqT K H b (ms.map V.int) ∧ Q (.bl (HT.lexLt ns ms)) H
/-- t + u, t not empty: u empty gives t itself -/
def rCatT (K : PySem.W.Frag) : R2 := fun x y H Q => ∃ a b xs ys, x = .ref a ∧ y = .ref b ∧ SqT K H a xs ∧ SqT K H b ys ∧ xs ≠ [] ∧ xs.length + ys.length ≤ sizeLine ∧
  (ys = [] → Q (.ref a) H) ∧ (ys ≠ [] → ∀ p, H p = none → Q (.ref p) (upd H p (.tup (xs ++ ys))))
end
end L2

namespace L2
open PySem PySem.Spec PyProof.Rows

/-! ### places -/
/-- the place that an index of any sign means -/
def ixN (n : Nat) (i : Int) : Option Nat := if 0 ≤ i then (if i < n then some i.toNat else none) else if -(n : Int) ≤ i then some (i + n).toNat else none
def atI {α : Type} (xs : List α) (i : Int) : Option α := (ixN xs.length i).bind fun j => xs[j]?
theorem ixN_seq {n : Nat} {i : Int} {j : Nat} (h : ixN n i = some j) : seqIndex? i n = some j ∧ j < n ∧ -(n : Int) ≤ i ∧ i < n := by
  unfold ixN at h
  by_cases h0 : 0 ≤ i
  · rw [if_pos h0] at h
    by_cases h1 : i < n
    · rw [if_pos h1] at h
      have e : i.toNat = j := Option.some.inj h
      exact ⟨by rw [seqIndex_of h0 h1, e], by omega, by omega, h1⟩
    · rw [if_neg h1] at h; cases h
  · rw [if_neg h0] at h
    by_cases h1 : -(n : Int) ≤ i
    · rw [if_pos h1] at h
      have e : (i + n).toNat = j := Option.some.inj h
      exact ⟨by rw [seqIndex_neg (by omega) h1, e], by omega, h1, by omega⟩
    · rw [if_neg h1] at h; cases h
theorem atI_get {α : Type} {xs : List α} {i : Int} {v : α} (h : atI xs i = some v) : ∃ j, seqIndex? i xs.length = some j ∧ xs[j]? = some v ∧ j < xs.length ∧ -(xs.length : Int) ≤ i ∧ i < xs.length := by
  unfold atI at h
  cases e : ixN xs.length i with
  | none => rw [e] at h; cases h
  | some j =>
    rw [e] at h
    obtain ⟨h1, h2, h3, h4⟩ := ixN_seq e
    exact ⟨j, h1, h, h2, h3, h4⟩
theorem atI_nat {α : Type} {xs : List α} {j : Nat} {v : α} (h : xs[j]? = some v) : atI xs (j : Int) = some v := by
  have hj : j < xs.length := (List.getElem?_eq_some_iff.mp h).1
  have e : ixN xs.length (j : Int) = some j := by
    unfold ixN
    rw [if_pos (by omega), if_pos (by omega)]; simp
  unfold atI; rw [e]; exact h

/-! ### what may be subscripted -/
/-- what stands as an index of a plain subscript -/
def PlainIx (b : Expr) : Prop := ∀ o i, subscripted b false o i = operate [o, i] (getItem o i)
/-- a subscript by values -/
def IxR (X : Cx) (r : R2) : Prop :=
  ∀ (value slice : Expr) (pins : List (Addr × Obj)) (s : Shared) (σ : St) (H : Hp) (x y : V) (v u : Value) (Q : VK), Inv X pins σ H s → RelV x v → RelV y u → r x y H Q →
    subscripted slice false v u = operate [v, u] (getItem v u) → wpAny (model X.prog X.w) X.A (subscriptTail value slice v u) (EP X pins σ Q) X.xe s
/-- a call of a builtin's method by values: the receiver, the arguments -/
def MtR (X : Cx) (id : String) (r : V → List V → Hp → VK → Prop) : Prop :=
  ∀ (pins : List (Addr × Obj)) (s : Shared) (σ : St) (H : Hp) (x : V) (xs : List V) (v : Value) (us : List Value) (Q : VK), Inv X pins σ H s → RelV x v → Vals xs us → r x xs H Q →
    wpAny (model X.prog X.w) X.A (call (.builtin id) (v :: us)) (EP X pins σ Q) X.xe s
section
variable {X : Cx} {a b : Expr} {ta tb : TE} {pos : Pos}
/-- a[b] -/
theorem pe_ix {r : R2} (hr : IxR X r) (ha : PE X a ta) (hb : PE X b tb) (hs : PlainIx b) : PE X (.Subscript a b pos) (tOp r ta tb) := by
  intro pins s σ H Q I h
  exact Subscript_ (binT ha hb I h fun v u s2 x y H2 I2 rx ry q => hr a b pins s2 σ H2 x y v u Q I2 rx ry q (hs _ _))

def rIxL (K : PySem.W.Frag) : R2 := fun x y H Q => ∃ p xs i v, x = .ref p ∧ y = .int i ∧ SqL K H p xs ∧ atI xs i = some v ∧ Q v H
def rIxT (K : PySem.W.Frag) : R2 := fun x y H Q => ∃ p xs i v, x = .ref p ∧ y = .int i ∧ SqT K H p xs ∧ atI xs i = some v ∧ Q v H
def rIxS : R2 := fun x y H Q => ∃ z i c, x = .str z ∧ y = .int i ∧ z.length ≤ sizeLine ∧ atI z.cps.toList i = some c ∧ Q (.str ⟨#[c]⟩) H
theorem ix_list : IxR X (rIxL X.K) := by
  intro value slice pins s σ H x y v u Q I rx ry h hs
  obtain ⟨p, xs, i, z, rfl, rfl, hq, he, q⟩ := h
  cases rx
  obtain ⟨t, rfl⟩ := ry
  obtain ⟨its, r, pl, hz⟩ := I.list hq
  obtain ⟨j, h1, h2, h3, h4, h5⟩ := atI_get he
  obtain ⟨w, ew, rw'⟩ := r.get h2
  have hl := r.length
  have hn := line63
  have fin : EP X pins σ Q w s := ⟨z, H, I, rw', q⟩
  by_cases h0 : 0 ≤ i
  · have hj : i.toNat = j := by
      rw [seqIndex_of h0 h5] at h1
      exact Option.some.inj h1
    exact item_listR pl.isList h0 (by omega) (by rw [hj]; simpa using ew) fin hs
  · have hj : (i + (its.toArray.size : Int)).toNat = j := by
      rw [seqIndex_neg (by omega) h4] at h1
      rw [List.size_toArray, ← hl]
      exact Option.some.inj h1
    exact subscriptTail_builtinR (x := w) pl.isList.typeIs slot_list_getitem.lookup
      (wpAny_getItem_list_neg (Q := fun r s' => r = w ∧ EP X pins σ Q r s') pl.isList (by omega) (by rw [List.size_toArray] <;> omega) (by omega) (by rw [hj]; simpa using ew) ⟨rfl, fin⟩) hs
/-- list, tuple or str -/
def rIx (K : PySem.W.Frag) : R2 := fun x y H Q => rIxL K x y H Q ∨ rIxT K x y H Q ∨ rIxS x y H Q

/-! ### xs[i] = v, any sign -/
/-- the list's object behind a store -/
theorem mapSeq_set (its : List Value) (n j : Nat) (u : Value) : Obj.mapSeq (·.setIfInBounds j u) { cls := .type "list", data := .seq its.toArray n } = { cls := .type "list", data := .seq (its.set j u).toArray n } := by
  simp [Obj.mapSeq]
theorem Inv.lst {pins : List (Addr × Obj)} {σ : St} {H : Hp} {s : Shared} {p : Addr} {xs : List V} (I : Inv X pins σ H s) (h : H p = some (.lst xs)) :
    ∃ (its : List Value) (n : Nat), Vals xs its ∧ s.heap.get? p = some { cls := .type "list", data := .seq its.toArray n } ∧ xs.length ≤ sizeLine := by
  obtain ⟨z, its, n, r, e⟩ := I.hok p _ h
  exact ⟨its, n, r, e, z⟩
/-- the list at p is written by an update of its object -/
theorem Inv.lstUpd {pins : List (Addr × Obj)} {σ : St} {H : Hp} {s : Shared} {p : Addr} {xs ys : List V} {its its' : List Value} {n n' : Nat} {f : Obj → Obj} (I : Inv X pins σ H s) (h : H p = some (.lst xs))
    (ho : s.heap.get? p = some { cls := .type "list", data := .seq its.toArray n }) (hf : f { cls := .type "list", data := .seq its.toArray n } = { cls := .type "list", data := .seq its'.toArray n' }) (r : Vals ys its') (hz : ys.length ≤ sizeLine) (t : Nat) :
    Inv X pins σ (upd H p (.lst ys)) { s with heap := s.heap.update p f, toks := t } := by
  have e : (s.heap.update p f).get? p = some { cls := .type "list", data := .seq its'.toArray n' } := by
    rw [Heap.get?_update_self f ho (by rw [hf] <;> rfl), hf]
  refine I.write (x := p) (e := p) (by rw [h]; trivial) (.inl rfl) (fun b u hb q => (Heap.get?_update_other _ _ (Ne.symm hb)).trans q) ⟨_, e⟩ ?_
  exact ⟨hz, its', n', r, e⟩
def rSetL : V → V → V → Hp → (Hp → Prop) → Prop := fun o i v H Q => ∃ p xs k j, o = .ref p ∧ i = .int k ∧ H p = some (.lst xs) ∧ ixN xs.length k = some j ∧ Q (upd H p (.lst (xs.set j v)))
theorem set_list : PSet X rSetL := by
  intro pins s σ H o i v ov iv u Q I ro ri rv h
  obtain ⟨p, xs, k, j, rfl, rfl, hp, hj, q⟩ := h
  cases ro
  obtain ⟨t, rfl⟩ := ri
  obtain ⟨its, n, r, ho, hz⟩ := I.lst hp
  obtain ⟨h1, h2, h3, h4⟩ := ixN_seq hj
  have hl := r.length
  have hn := line63
  have I' : Inv X pins σ (upd H p (.lst (xs.set j v))) { s with heap := s.heap.update p (Obj.mapSeq (·.setIfInBounds j u)) } :=
    I.lstUpd hp ho (mapSeq_set its n j u) (r.set rv j) (by rw [List.length_set]; exact hz) s.toks
  by_cases h0 : 0 ≤ k
  · have hk : k.toNat = j := by
      rw [seqIndex_of h0 h4] at h1
      exact Option.some.inj h1
    exact PySem.W.ki_setAt ho h0 (by omega) (by rw [List.size_toArray, ← hl]; exact h4) (by rw [hk]; exact ⟨_, I', q⟩)
  · have hk : (k + (its.toArray.size : Int)).toNat = j := by
      rw [seqIndex_neg (by omega) h3] at h1
      rw [List.size_toArray, ← hl]
      exact Option.some.inj h1
    exact PySem.W.ki_setBack ho (by omega) (by rw [List.size_toArray, ← hl]; exact h3) (by omega) (by rw [hk]; exact ⟨_, I', q⟩)

/-! ### slices -/
theorem slice_bounds (lo hi : Option Int) (n : Nat) : (sliceBounds lo hi none n).1 = ((HT.sIx n 0 lo : Nat) : Int) ∧ (sliceBounds lo hi none n).2.1 = ((HT.sIx n n hi : Nat) : Int) ∧ (sliceBounds lo hi none n).2.2 = 1 := by
  refine ⟨?_, ?_, rfl⟩
  · cases lo with
    | none => simp [sliceBounds, HT.sIx]
    | some i =>
      simp only [sliceBounds, HT.sIx, Option.getD_none, show (1 : Int) > 0 by decide, if_true]
      by_cases h : i < 0
      · simp only [h, if_true] <;> omega
      · simp only [h, if_false] <;> omega
  · cases hi with
    | none => simp [sliceBounds, HT.sIx]
    | some i =>
      simp only [sliceBounds, HT.sIx, Option.getD_none, show (1 : Int) > 0 by decide, if_true]
      by_cases h : i < 0
      · simp only [h, if_true] <;> omega
      · simp only [h, if_false] <;> omega
theorem slicePick_cut (its : List Value) (lo hi : Option Int) : slicePick its.toArray lo hi none = ((its.drop (HT.sIx its.length 0 lo)).take (HT.sIx its.length its.length hi - HT.sIx its.length 0 lo)).toArray := by
  obtain ⟨h1, h2, h3⟩ := slice_bounds lo hi its.toArray.size
  unfold slicePick
  rw [h1, h2, h3]
  simp only [sliceRange_one, pick_run, List.size_toArray] <;> rfl
/-- xs[lo:hi] of a list: a new list -/
def rSlL (K : PySem.W.Frag) : V → Option Int → Option Int → Hp → VK → Prop := fun x lo hi H Q => ∃ a xs, x = .ref a ∧ SqL K H a xs ∧ ∀ p, H p = none → Q (.ref p) (upd H p (.lst (cutV xs lo hi)))
theorem sl_list : SlR X (rSlL X.K) := by
  intro pins s σ H x v vl vu lo hi sl Q I rx hs pl pu h
  obtain ⟨a, xs, rfl, hx, q⟩ := h
  cases rx
  obtain ⟨its, r, ht, hz⟩ := I.list hx
  have hlen := r.length
  refine ⟨"list", _, slot_list_getitem.lookup, ht.isList.typeIs, ?_⟩
  refine wpAny_getItem_list_slice ht.isList hs pl pu .none (by simp) ?_ (by rw [List.size_toArray] <;> omega)
  rw [slicePick_cut, ← hlen]
  refine ⟨.ref s.heap.objs.size, _, I.laid (t' := s.toks) (o := .lst (cutV xs lo hi)) (fun b ob q => Heap.get?_push_of_some _ q) (Nat.le_refl _) ?_, rfl, q _ (I.hok.fresh (Nat.le_refl _))⟩
  exact ⟨Nat.le_trans (cutV_length xs lo hi) hz, _, 0, (r.drop (HT.sIx xs.length 0 lo)).take (HT.sIx xs.length xs.length hi - HT.sIx xs.length 0 lo), Heap.get?_push_size _ rfl⟩

/-! ### in, not in: flat items -/
def flatV : V → Bool
  | .non => true
  | .bl _ => true
  | .int _ => true
  | .str _ => true
  | _ => false
/-- == of flat values -/
def eqV : V → V → Bool
  | .non, .non => true
  | .bl a, .bl b => a == b
  | .bl a, .int b => (if a then 1 else 0) == b
  | .int a, .bl b => a == (if b then 1 else 0)
  | .int a, .int b => a == b
  | .str a, .str b => a == b
  | _, _ => false
theorem eqAt_V {A : Around} {s : Shared} {y x : V} {u v : Value} (ry : RelV y u) (rx : RelV x v) (fy : flatV y = true) (fx : flatV x = true) : SeqAt.EqAt A s u v (eqV y x) := by
  cases y with
  | non =>
    cases ry
    cases x with
    | non => cases rx; exact SeqAt.EqAt.same _
    | bl b => cases rx; exact SeqAt.EqAt.none_bool b
    | int b => obtain ⟨t, rfl⟩ := rx; exact SeqAt.EqAt.none_int b t
    | str b => obtain ⟨t, rfl⟩ := rx; exact SeqAt.EqAt.none_str b t
    | _ => exact absurd (show false = true from fx) Bool.false_ne_true
  | bl a =>
    cases ry
    cases x with
    | non => cases rx; exact SeqAt.EqAt.bool_none a
    | bl b => cases rx; exact SeqAt.EqAt.bool_bool a b
    | int b => obtain ⟨t, rfl⟩ := rx; exact SeqAt.EqAt.bool_int a b t
    | str b => obtain ⟨t, rfl⟩ := rx; exact SeqAt.EqAt.bool_str a b t
    | _ => exact absurd (show false = true from fx) Bool.false_ne_true
  | int a =>
    obtain ⟨t', rfl⟩ := ry
    cases x with
    | non => cases rx; exact SeqAt.EqAt.int_none a t'
    | bl b => cases rx; exact SeqAt.EqAt.int_bool a t' b
    | int b => obtain ⟨t, rfl⟩ := rx; exact SeqAt.EqAt.int_int a t' b t
    | str b => obtain ⟨t, rfl⟩ := rx; exact SeqAt.EqAt.int_str a t' b t
    | _ => exact absurd (show false = true from fx) Bool.false_ne_true
  | str a =>
    obtain ⟨t', rfl⟩ := ry
    cases x with
    | non => cases rx; exact SeqAt.EqAt.str_none a t'
    | bl b => cases rx; exact SeqAt.EqAt.str_bool a t' b
    | int b => obtain ⟨t, rfl⟩ := rx; exact SeqAt.EqAt.str_int a t' b t
    | str b => obtain ⟨t, rfl⟩ := rx; exact SeqAt.EqAt.str_str a t' b t
    | _ => exact absurd (show false = true from fx) Bool.false_ne_true
  | _ => exact absurd (show false = true from fy) Bool.false_ne_true
/-- the items' answers, read off the values (a value's own answer does not lean on its token) -/
def eqU (x : V) (u : Value) : Bool := match u with
  | .none => eqV .non x
  | .bool b => eqV (.bl b) x
  | .int i _ => eqV (.int i) x
  | .str z _ => eqV (.str z) x
  | _ => false
theorem eqU_of {x y : V} {u : Value} (r : RelV y u) (f : flatV y = true) : eqU x u = eqV y x := by
  cases y with
  | non => cases r; rfl
  | bl b => cases r; rfl
  | int i => obtain ⟨t, rfl⟩ := r; rfl
  | str z => obtain ⟨t, rfl⟩ := r; rfl
  | _ => exact absurd (show false = true from f) Bool.false_ne_true
theorem any_eqU {x : V} : ∀ {xs : List V} {us : List Value}, Vals xs us → xs.all flatV = true → us.any (eqU x) = xs.any fun y => eqV y x
  | _, _, .nil, _ => rfl
  | y :: xs, u :: us, .cons r t, f => by
    rw [List.all_cons, Bool.and_eq_true] at f
    rw [List.any_cons, List.any_cons, eqU_of r f.1, any_eqU t f.2]
theorem mem_eqAt {A : Around} {s : Shared} {x : V} {v : Value} (rx : RelV x v) (fx : flatV x = true) : ∀ {xs : List V} {us : List Value}, Vals xs us → xs.all flatV = true → ∀ u ∈ us, SeqAt.EqAt A s u v (eqU x u)
  | _, _, .nil, _ => fun u hu => by cases hu
  | y :: xs, u :: us, .cons r t, f => fun u' hu => by
    rw [List.all_cons, Bool.and_eq_true] at f
    rcases List.mem_cons.mp hu with rfl | hu
    · rw [eqU_of r f.1]; exact eqAt_V r rx f.1 fx
    · exact mem_eqAt rx fx t f.2 u' hu
def inV (x : V) (xs : List V) : Bool := xs.any fun y => eqV y x
/-- x in a list or tuple of flat items -/
def rIn (K : PySem.W.Frag) (neg : Bool) : R2 := fun x y H Q => ∃ p xs, y = .ref p ∧ (SqL K H p xs ∨ SqT K H p xs) ∧ flatV x = true ∧ xs.all flatV = true ∧ Q (.bl (if neg then !inV x xs else inV x xs)) H
theorem op_in_seq : OpR X (compareOp .In) (rIn X.K false) := by
  intro pins s σ H x y v u Q I rx ry h
  obtain ⟨p, xs, rfl, hq, fx, fs, q⟩ := h
  cases ry
  rcases hq with hq | hq
  · obtain ⟨its, r, pl, hz⟩ := I.list hq
    refine SeqAt.in_listAt (eqU x) pl.isList (fun w hw => mem_eqAt rx fx r fs w (by simpa using hw)) ⟨.bl _, H, I, rfl, ?_⟩
    rw [show its.toArray.any (eqU x) = its.any (eqU x) by simp, any_eqU r fs]
    exact q
  · obtain ⟨its, r, pl, hz⟩ := I.tuple hq
    refine SeqAt.in_tupleAt (eqU x) pl (fun w hw => mem_eqAt rx fx r fs w (by simpa using hw)) ⟨.bl _, H, I, rfl, ?_⟩
    rw [show its.toArray.any (eqU x) = its.any (eqU x) by simp, any_eqU r fs]
    exact q

/-! ### len, list(x), tuple(x) of any list or tuple that is read -/
theorem call_len_seq : CallR X (.builtin "len") (fun xs H Q => ∃ p ys, xs = [.ref p] ∧ (SqL X.K H p ys ∨ SqT X.K H p ys) ∧ Q (.int ys.length) H) := by
  intro pins s σ H xs us Q I r h
  obtain ⟨p, ys, rfl, hq, q⟩ := h
  obtain ⟨u, rfl, rx⟩ := vals1 r
  cases rx
  have hn := line63
  rcases hq with hq | hq
  · obtain ⟨its, r', pl, hz⟩ := I.list hq
    have hlen := r'.length
    exact Calls.call_len_list pl.isList (by simp only [List.size_toArray] <;> omega) ⟨.int ys.length, H, I.tok _, ⟨s.toks + 1, by rw [List.size_toArray, hlen]⟩, q⟩
  · obtain ⟨its, r', pl, hz⟩ := I.tuple hq
    have hlen := r'.length
    exact len_tuple pl (by simp only [List.size_toArray] <;> omega) ⟨.int ys.length, H, I.tok _, ⟨s.toks + 1, by rw [List.size_toArray, hlen]⟩, q⟩

/-! ### the call of a builtin's method: o.m(..) -/
/-- the value is of that builtin type -/
def tyV (K : PySem.W.Frag) (T : String) (x : V) (H : Hp) : Prop := match x with
  | .str _ => T = "str"
  | .int _ => T = "int"
  | .ref p => (T = "list" ∧ ∃ xs, SqL K H p xs) ∨ (T = "tuple" ∧ ∃ o, K.lookup p = some o ∧ o.cls = .type "tuple" ∧ o.dict = none) ∨
      (T = "dict" ∧ ((∃ kvs, H p = some (.dK kvs)) ∨ ∃ kvs, H p = some (.dT kvs))) ∨ (T = "set" ∧ ∃ S n, H p = some (.set S n))
  | _ => False
theorem tyV_is {pins : List (Addr × Obj)} {σ : St} {H : Hp} {s : Shared} {T : String} {x : V} {v : Value} (I : Inv X pins σ H s) (r : RelV x v) (ty : tyV X.K T x H) :
    s.TypeIs v T ∧ ∀ a, v = .ref a → ∃ ob, s.heap.get? a = some ob ∧ ob.dict = none := by
  cases x with
  | str z =>
    obtain ⟨t, rfl⟩ := r
    cases (show T = "str" from ty)
    exact ⟨typeIs_str s z t, fun _ e => nomatch e⟩
  | int i =>
    obtain ⟨t, rfl⟩ := r
    cases (show T = "int" from ty)
    exact ⟨typeIs_int s i t, fun _ e => nomatch e⟩
  | ref p =>
    cases r
    rcases ty with ⟨rfl, xs, hq⟩ | ⟨rfl, o, hk, hc, hd⟩ | ⟨rfl, hk⟩ | ⟨rfl, S, n, hk⟩
    · obtain ⟨its, _, pl, _⟩ := I.list hq
      refine ⟨pl.isList.typeIs, fun a e => ?_⟩
      cases e
      obtain ⟨o, n, e, c, hd, _⟩ := pl
      exact ⟨o, e, hd⟩
    · refine ⟨⟨o, I.kIn p o hk, hc⟩, fun a e => ?_⟩
      cases e
      exact ⟨o, I.kIn _ o hk, hd⟩
    · have z : ∃ o, s.heap.get? p = some o ∧ o.ExactDict := by
        rcases hk with ⟨kvs, hk⟩ | ⟨kvs, hk⟩
        · obtain ⟨_, _, _, _, o, _, _, e, ex, _⟩ := I.hok p _ hk
          exact ⟨o, e, ex⟩
        · obtain ⟨_, _, _, _, o, _, _, e, ex, _⟩ := I.hok p _ hk
          exact ⟨o, e, ex⟩
      obtain ⟨o, e, ex⟩ := z
      refine ⟨⟨o, e, ex.1⟩, fun a e2 => ?_⟩
      cases e2
      exact ⟨o, e, ex.2.1⟩
    · obtain ⟨o, _, _, _, e, ex, _⟩ := I.hok p _ hk
      refine ⟨⟨o, e, ex.1⟩, fun a e2 => ?_⟩
      cases e2
      exact ⟨o, e, ex.2.1⟩
  | _ => exact False.elim ty
def tBM0 (K : PySem.W.Frag) (T : String) (r : V → List V → Hp → VK → Prop) (to : TE) : TE := fun σ H Q => to σ H fun x H1 => tyV K T x H1 ∧ r x [] H1 Q
def tBM (K : PySem.W.Frag) (T : String) (r : V → List V → Hp → VK → Prop) (to : TE) (t : TA) : TE := fun σ H Q => to σ H fun x H1 => tyV K T x H1 ∧ t σ H1 fun xs H2 => r x xs H2 Q
variable {o e : Expr} {es : List Expr} {to : TE} {t : TA} {name : Str} {apos cpos : Pos} {T id : String} {r : V → List V → Hp → VK → Prop}
theorem pe_bm (pa : PlainAttrs T) (slot : Slot T name id) (hty : typeOf (.builtin id) = pure (.type "method_descriptor")) (hm : MtR X id r) (ho : PE X o to) (ha : PA X (e :: es) t)
    (hbase : attributeBase o name X.env (eval o X.env) = eval o X.env := by rfl)
    (hfew : ((backTo cpos (starEach (e :: es) X.env)).all (fun x => !x.1) && (backToKw cpos (keywordEach [] X.env)).all (fun x => x.1.isSome)
      && decide ((e :: es).length + ([] : List Keyword).length + (if ([] : List Keyword).isEmpty then 0 else 1) < 30)) = true := by rfl)
    (hline : (apos.endLine == cpos.line) = true := by rfl) (hs : starEach (e :: es) X.env = (false, eval e X.env) :: starEach es X.env := by rfl) (hplain : (backTo cpos (starEach es X.env)).any (·.1) = false := by rfl) :
    PE X (.Call (.Attribute o name apos) (e :: es) [] cpos) (tBM X.K T r to t) := by
  intro pins s σ H Q I h
  refine wpAny_Call_method_late hbase hfew hline rfl (thn (ho pins s σ H _ I h) fun v s1 ⟨x, H1, I1, r1, ty, q1⟩ => ?_)
  obtain ⟨h1, h2⟩ := tyV_is I1 r1 ty
  refine ⟨T, id, pa, slot, hty, h1, h2, ?_⟩
  have hA := ha cpos pins s1 σ H1 _ I1 q1
  rw [hs] at hA ⊢
  refine Calls.callWith_builtin (by show (false || (backTo cpos (starEach es X.env)).any (·.1)) = false; rw [hplain] <;> rfl) (Calls.evalArgs_plain ?_)
  exact thn hA fun us s2 ⟨vs, H2, I2, r2, q2⟩ => hm pins s2 σ H2 x vs v us Q I2 r1 r2 q2
/- xs.append(e), list.index on a module's tuple .. are MtR facts of 06m -/
end
end L2

namespace L2
open PySem PySem.Spec PyProof.Rows

def MtM (X : Cx) (id : String) (r : V → List V → Hp → VK → Prop) : Prop :=
  ∀ (pins : List (Addr × Obj)) (s : Shared) (σ : St) (H : Hp) (x : V) (xs : List V) (v : Value) (us : List Value) (Q : VK), Inv X pins σ H s → RelV x v → Vals xs us → r x xs H Q →
    wpAny (model X.prog X.w) X.A (call (.builtin id) (v :: us)) (EP X pins σ Q) X.xe s

/-! ### lists of values -/
theorem Vals.one : ∀ {x : V} {us : List Value}, Vals [x] us → ∃ u, us = [u] ∧ RelV x u
  | _, _, .cons r .nil => ⟨_, rfl, r⟩

section
variable {X : Cx} {pins : List (Addr × Obj)} {σ : St} {H : Hp} {s : Shared} {l b : Addr} {xs ys zs : List V}

/-! ### the two steps: a tracked list is rewritten, a new list is laid -/
theorem Inv.lset {its its' : List Value} {n : Nat} {f : Array Value → Array Value} {t' : Nat} (I : Inv X pins σ H s) (hH : H l = some (.lst xs))
    (e : s.heap.get? l = some { cls := .type "list", data := .seq its.toArray n }) (hf : f its.toArray = its'.toArray) (hv : Vals ys its') (hz : ys.length ≤ sizeLine) :
    Inv X pins σ (upd H l (.lst ys)) { s with heap := s.heap.update l (Obj.mapSeq f), toks := t' } := by
  have q := PySem.IsL.update e f
  rw [hf] at q
  refine I.write (x := l) (e := l) (by rw [hH]; exact trivial) (.inl rfl) (fun b' u hb hu => (Heap.get?_update_other s.heap (Obj.mapSeq f) (Ne.symm hb)).trans hu) ⟨_, q⟩ ?_
  exact ⟨hz, its', _, hv, q⟩
theorem Inv.lnew {its : List Value} {t' : Nat} (I : Inv X pins σ H s) (hv : Vals ys its) (hz : ys.length ≤ sizeLine) :
    Inv X pins σ (upd H s.heap.objs.size (.lst ys)) { s with heap := s.heap.push { cls := .type "list", data := .seq its.toArray }, toks := t' } :=
  I.laid (fun _ _ q => Heap.get?_push_of_some _ q) (Nat.le_refl _) ⟨hz, its, 0, hv, Heap.get?_push_size _ rfl⟩
theorem Inv.fresh (I : Inv X pins σ H s) : H s.heap.objs.size = none := I.hok.fresh (Nat.le_refl _)
theorem Inv.lstM (I : Inv X pins σ H s) (hH : H l = some (.lst xs)) : xs.length ≤ sizeLine ∧ ∃ (its : List Value) (n : Nat), Vals xs its ∧ xs.length = its.length ∧ s.heap.get? l = some { cls := .type "list", data := .seq its.toArray n } := by
  obtain ⟨z, its, n, r, e⟩ := I.hok l _ hH
  exact ⟨z, its, n, r, r.length, e⟩

theorem notLongL {n : Nat} (h : n ≤ sizeLine) : Builtin.List.listTooLong n = false := by
  unfold Builtin.List.listTooLong
  exact decide_eq_false (by omega)
end

section
variable {X : Cx}

/-! ### methods -/
def rAppend : V → List V → Hp → VK → Prop := fun x vs H Q => ∃ l xs y, x = .ref l ∧ vs = [y] ∧ H l = some (.lst xs) ∧ xs.length < sizeLine ∧ Q .non (upd H l (.lst (xs ++ [y])))
theorem mt_append : MtM X "list.append" rAppend := by
  intro pins s σ H x vs v us Q I rx rv h
  obtain ⟨l, xs, y, rfl, rfl, hH, hz, q⟩ := h
  cases rx
  obtain ⟨u, rfl, ru⟩ := rv.one
  obtain ⟨z, its, n, r, hl, e⟩ := I.lstM hH
  refine call_meets F.slot_list_append ⟨_, e, rfl⟩ F.entry_list_append (F.args_list_append_2 _ _) (PySem.list_append l its.toArray n u (by rw [List.size_toArray]; omega)) ⟨e, ?_⟩
  refine ⟨.non, _, I.lset (its' := its ++ [u]) hH e (by simp) (r.append (.cons ru .nil)) ?_, rfl, q⟩
  rw [List.length_append, List.length_singleton]
  omega

def rExtend : V → List V → Hp → VK → Prop := fun x vs H Q => ∃ l b xs zs, x = .ref l ∧ vs = [.ref b] ∧ H l = some (.lst xs) ∧ H b = some (.lst zs) ∧ xs.length + zs.length ≤ sizeLine ∧ Q .non (upd H l (.lst (xs ++ zs)))
theorem mt_extend : MtM X "list.extend" rExtend := by
  intro pins s σ H x vs v us Q I rx rv h
  obtain ⟨l, b, xs, zs, rfl, rfl, hH, hB, hz, q⟩ := h
  cases rx
  obtain ⟨u, rfl, ru⟩ := rv.one
  cases ru
  obtain ⟨z, its, n, r, hl, e⟩ := I.lstM hH
  obtain ⟨z2, its2, n2, r2, hl2, e2⟩ := I.lstM hB
  have hsz : its.toArray.size + its2.toArray.size ≤ sizeLine := by rw [List.size_toArray, List.size_toArray]; omega
  have hlong : ¬ (!its.toArray.isEmpty && Builtin.List.listTooLong (its.toArray.size + its2.toArray.size)) = true := by
    rw [notLongL hsz, Bool.and_false]
    exact Bool.false_ne_true
  refine call_meets F.slot_list_extend ⟨_, e, rfl⟩ F.entry_list_extend (F.args_list_extend_2 _ _)
    (AutoSeq1.list_extend_list_list_0 l its.toArray n b its2.toArray n2 hlong (by rw [List.size_toArray]; omega) (by omega)) ⟨e, e2, ?_⟩
  refine ⟨.non, _, I.lset (its' := its ++ its2) hH e (by simp) (r.append r2) ?_, rfl, q⟩
  rw [List.length_append]
  omega

def rPop : V → List V → Hp → VK → Prop := fun x vs H Q => ∃ l xs y, x = .ref l ∧ vs = [] ∧ H l = some (.lst xs) ∧ xs[xs.length - 1]? = some y ∧ Q y (upd H l (.lst xs.dropLast))

def rPopAt : V → List V → Hp → VK → Prop := fun x vs H Q => ∃ l xs i k y, x = .ref l ∧ vs = [.int i] ∧ H l = some (.lst xs) ∧ -(2 ^ 63) ≤ i ∧ i < 2 ^ 63 ∧ seqIndex? i xs.length = some k ∧ xs[k]? = some y ∧ Q y (upd H l (.lst (xs.eraseIdx k)))

def rReverse : V → List V → Hp → VK → Prop := fun x vs H Q => ∃ l xs, x = .ref l ∧ vs = [] ∧ H l = some (.lst xs) ∧ Q .non (upd H l (.lst xs.reverse))

def rClear : V → List V → Hp → VK → Prop := fun x vs H Q => ∃ l xs, x = .ref l ∧ vs = [] ∧ H l = some (.lst xs) ∧ Q .non (upd H l (.lst []))

/-! ### list + list, list += list, list * int -/
def rCat : R2 := fun x y H Q => ∃ l b xs zs, x = .ref l ∧ y = .ref b ∧ H l = some (.lst xs) ∧ H b = some (.lst zs) ∧ xs.length + zs.length ≤ sizeLine ∧ ∀ p, H p = none → Q (.ref p) (upd H p (.lst (xs ++ zs)))
theorem op_cat : OpR X (binaryOp .Add) rCat := by
  intro pins s σ H x y v u Q I rx ry h
  obtain ⟨l, b, xs, zs, rfl, rfl, hH, hB, hz, q⟩ := h
  cases rx
  cases ry
  obtain ⟨z, its, n, r, hl, e⟩ := I.lstM hH
  obtain ⟨z2, its2, n2, r2, hl2, e2⟩ := I.lstM hB
  refine PySem.P.add_list e e2 ?_ (by rw [List.size_toArray, List.size_toArray]; omega)
  have ea : its.toArray ++ its2.toArray = (its ++ its2).toArray := by simp
  rw [ea]
  exact ⟨.ref _, _, I.lnew (t' := s.toks) (r.append r2) (by rw [List.length_append]; omega), rfl, q _ I.fresh⟩
/-- a list times an int (a negative one is nothing) -/
def rRep : R2 := fun x y H Q => ∃ l k xs, x = .ref l ∧ y = .int k ∧ H l = some (.lst xs) ∧ -(2 ^ 63) ≤ k ∧ k < 2 ^ 63 ∧ xs.length * k.toNat ≤ sizeLine ∧
  ∀ p, H p = none → Q (.ref p) (upd H p (.lst (List.replicate k.toNat xs).flatten))

/-! ### del xs[i] -/
end

/-! ### xs[a:b] = ys -/
section
variable {prog : Program} {w : World} {A : Around} {E : Value → Shared → Prop} {s : Shared}
set_option maxRecDepth 100000 in
end

section
variable {X : Cx}
end
end L2

namespace L2
open PySem PySem.Spec PyProof.Rows

theorem Vals.ints : ∀ {ns : List Int} {us : List Value}, Vals (ns.map V.int) us → IntsAre us ns
  | [], us, h => by
    rw [List.map_nil] at h
    cases h
    exact IntsAre.nil
  | n :: ns, us, h => by
    rw [List.map_cons] at h
    cases h with
    | cons r t =>
      obtain ⟨k, rfl⟩ := r
      exact IntsAre.cons n k (Vals.ints t)
theorem Vals.bls : ∀ {bs : List Bool} {us : List Value}, Vals (bs.map V.bl) us → us = bs.map Value.bool
  | [], us, h => by
    rw [List.map_nil] at h
    cases h
    rfl
  | b :: bs, us, h => by
    rw [List.map_cons] at h
    cases h with
    | cons r t =>
      cases r
      rw [Vals.bls t, List.map_cons]
theorem Vals.ref1 {a : Addr} {us : List Value} (r : Vals [V.ref a] us) : us = [Value.ref a] := by
  cases r with
  | cons r t =>
    cases t
    cases r
    rfl

/-! ### the library's walks over a list of ints, kept objects alone -/
section
variable {prog : Program} {w : World} {A : Around} {E : Value → Shared → Prop} {s : Shared} {l : Addr} {its : List Value} {ns : List Int} {Q : Value → Shared → Prop}
theorem sum_raw (hh : A.handled = none) (hl : s.heap.IsList l its.toArray) (hi : IntsAre its ns)
    (h : ∀ h' tk t', (∀ b o, s.heap.get? b = some o → h'.get? b = some o) → Q (.int ns.sum t') { s with heap := h', toks := tk }) : wpAny (model prog w) A (call (.builtin "sum") [.ref l]) Q E s := by
  obtain ⟨xs, e⟩ := hi.allInts.items
  have hn : numsOf (intItems xs).toList = ns := by rw [← e]; exact hi.numsOf
  rw [nums_intItems] at hn
  rw [e] at hl
  refine PySem.sum_intListG hh hl fun h' tk t' hk => ?_
  have := h h' tk t' hk
  rw [preSum_eq, List.take_of_length_le (by simp), hn]; exact this
theorem max_raw (hh : A.handled = none) (hl : s.heap.IsList l its.toArray) (hi : IntsAre its ns) (hne : 0 < ns.length)
    (h : ∀ h' tk M t', (∀ b o, s.heap.get? b = some o → h'.get? b = some o) → M ∈ ns → (∀ a, a ∈ ns → a ≤ M) → Q (.int M t') { s with heap := h', toks := tk }) : wpAny (model prog w) A (call (.builtin "max") [.ref l]) Q E s := by
  obtain ⟨xs, e⟩ := hi.allInts.items
  have hn : numsOf (intItems xs).toList = ns := by rw [← e]; exact hi.numsOf
  rw [nums_intItems] at hn
  subst hn
  rw [e] at hl
  have hsz : 0 < xs.size := by simpa using hne
  refine PySem.max_intList hh hl hsz fun v h' tk hv hk => ?_
  obtain ⟨t, rfl⟩ := intItems_at hv
  obtain ⟨h1, h2⟩ := argBest_gt (numAt xs) (xs.size - 1)
  refine h h' tk _ t hk ?_ fun a ha => ?_
  · rw [numAt_eq]; exact PySem.getD_mem (by rw [List.length_map, Array.length_toList]; omega)
  · obtain ⟨j, hj, rfl⟩ := mem_getD ha
    rw [List.length_map, Array.length_toList] at hj
    rw [← numAt_eq]; exact h2 j (by omega)
theorem min_raw (hh : A.handled = none) (hl : s.heap.IsList l its.toArray) (hi : IntsAre its ns) (hne : 0 < ns.length)
    (h : ∀ h' tk M t', (∀ b o, s.heap.get? b = some o → h'.get? b = some o) → M ∈ ns → (∀ a, a ∈ ns → M ≤ a) → Q (.int M t') { s with heap := h', toks := tk }) : wpAny (model prog w) A (call (.builtin "min") [.ref l]) Q E s := by
  obtain ⟨xs, e⟩ := hi.allInts.items
  have hn : numsOf (intItems xs).toList = ns := by rw [← e]; exact hi.numsOf
  rw [nums_intItems] at hn
  subst hn
  rw [e] at hl
  have hsz : 0 < xs.size := by simpa using hne
  refine PySem.min_intList hh hl hsz fun v h' tk hv hk => ?_
  obtain ⟨t, rfl⟩ := intItems_at hv
  obtain ⟨h1, h2⟩ := argBest_lt (numAt xs) (xs.size - 1)
  refine h h' tk _ t hk ?_ fun a ha => ?_
  · rw [numAt_eq]; exact PySem.getD_mem (by rw [List.length_map, Array.length_toList]; omega)
  · obtain ⟨j, hj, rfl⟩ := mem_getD ha
    rw [List.length_map, Array.length_toList] at hj
    rw [← numAt_eq]; exact h2 j (by omega)
end

/-! ### the calls, by values (CallR of 03t; MtR of 06l) -/
section
variable {X : Cx}
/-- sum(xs) of a list of ints -/
def rSum (K : PySem.W.Frag) : List V → Hp → VK → Prop := fun vs H Q => ∃ (a : Addr) (ns : List Int), vs = [V.ref a] ∧ SqL K H a (ns.map V.int) ∧ Q (.int ns.sum) H
/-- max(xs), min(xs) of a list of ints -/
def rMax (K : PySem.W.Frag) : List V → Hp → VK → Prop := fun vs H Q => ∃ (a : Addr) (ns : List Int), vs = [V.ref a] ∧ SqL K H a (ns.map V.int) ∧ 0 < ns.length ∧ ∀ m, m ∈ ns → (∀ y, y ∈ ns → y ≤ m) → Q (.int m) H
def rMin (K : PySem.W.Frag) : List V → Hp → VK → Prop := fun vs H Q => ∃ (a : Addr) (ns : List Int), vs = [V.ref a] ∧ SqL K H a (ns.map V.int) ∧ 0 < ns.length ∧ ∀ m, m ∈ ns → (∀ y, y ∈ ns → m ≤ y) → Q (.int m) H
theorem cr_sum (hc : X.calm = true) : CallR X (.builtin "sum") (rSum X.K) := by
  intro pins s σ H vs us Q I r h
  obtain ⟨a, ns, rfl, hs, q⟩ := h
  obtain ⟨its, rv, hl, _⟩ := I.list hs
  rw [Vals.ref1 r]
  exact sum_raw (I.ok.hd hc) hl.isList rv.ints fun h' tk t' hk => ⟨.int _, H, I.kept hk, ⟨_, rfl⟩, q⟩
theorem cr_max (hc : X.calm = true) : CallR X (.builtin "max") (rMax X.K) := by
  intro pins s σ H vs us Q I r h
  obtain ⟨a, ns, rfl, hs, hne, q⟩ := h
  obtain ⟨its, rv, hl, _⟩ := I.list hs
  rw [Vals.ref1 r]
  exact max_raw (I.ok.hd hc) hl.isList rv.ints hne fun h' tk m t' hk h1 h2 => ⟨.int _, H, I.kept hk, ⟨_, rfl⟩, q m h1 h2⟩
theorem cr_min (hc : X.calm = true) : CallR X (.builtin "min") (rMin X.K) := by
  intro pins s σ H vs us Q I r h
  obtain ⟨a, ns, rfl, hs, hne, q⟩ := h
  obtain ⟨its, rv, hl, _⟩ := I.list hs
  rw [Vals.ref1 r]
  exact min_raw (I.ok.hd hc) hl.isList rv.ints hne fun h' tk m t' hk h1 h2 => ⟨.int _, H, I.kept hk, ⟨_, rfl⟩, q m h1 h2⟩

/-! sorted, sort (fewer than 64 items: the library's own bound) -/
def rSorted (K : PySem.W.Frag) : List V → Hp → VK → Prop := fun vs H Q => ∃ (a : Addr) (ns : List Int), vs = [V.ref a] ∧ SqL K H a (ns.map V.int) ∧ ns.length < 64 ∧
  ∀ (ns' : List Int) (p : Addr), ns'.Perm ns → ns'.Pairwise (· ≤ ·) → H p = none → Q (.ref p) (upd H p (.lst (ns'.map V.int)))
def rSortedS (K : PySem.W.Frag) : List V → Hp → VK → Prop := fun vs H Q => ∃ (a : Addr) (xs : List Str), vs = [V.ref a] ∧ SqL K H a (xs.map V.str) ∧ xs.length < 64 ∧
  ∀ (ys : List Str) (p : Addr), ys.Perm xs → sortedS ys = true → H p = none → Q (.ref p) (upd H p (.lst (ys.map V.str)))
/-- xs.sort(), ints -/
def rSort : V → List V → Hp → VK → Prop := fun x xs H Q => ∃ (a : Addr) (ns : List Int), x = V.ref a ∧ xs = [] ∧ H a = some (.lst (ns.map V.int)) ∧ ns.length < 64 ∧
  ∀ ns' : List Int, ns'.Perm ns → ns'.Pairwise (· ≤ ·) → Q .non (upd H a (.lst (ns'.map V.int)))
end

/-! ### list.index, flat items -/
section
variable {X : Cx}
def rIndex (K : PySem.W.Frag) : V → List V → Hp → VK → Prop := fun x xs H Q => ∃ (a : Addr) (ys : List V) (y : V) (j : Nat) (z : V), x = V.ref a ∧ xs = [y] ∧ SqL K H a ys ∧ flatV y = true ∧ ys.all flatV = true ∧ ys[j]? = some z ∧ eqV z y = true ∧
  (∀ (m : Nat) (z' : V), m < j → ys[m]? = some z' → eqV z' y = false) ∧ Q (.int (j : Nat)) H
end

/-! ### type(x) of an own instance; is, is not of a module's class -/
section
variable {X : Cx}
end

/-! ### any(xs), all(xs) of a list of bools -/
theorem iter_any {prog : Program} {w : World} {A : Around} {E : Value → Shared → Prop} {s : Shared} {l : Addr} {items : Array Value} {Q : Value → Shared → Prop} (hl : s.heap.IsList l items)
    (h : ∀ s₂ : Shared, s₂ = { s with heap := s.heap.push { cls := .type "list_iterator", data := .fields #[.ref l, .int 0 0] } } →
      (s₂.heap.IsListIter s.heap.objs.size l 0 ∧ s₂.heap.IsList l items) → l ≠ s.heap.objs.size → Q (.ref s.heap.objs.size) s₂) : wpAny (model prog w) A (pyIter (.ref l)) Q E s := by
  have hlt : l < s.heap.objs.size := by obtain ⟨_, e, _⟩ := hl; exact Heap.lt_size e
  exact wpAny_pyIter_list hl (h _ rfl ⟨⟨_, Heap.get?_push_size _ rfl, rfl, rfl⟩, hl.push _⟩ (Nat.ne_of_lt hlt))
theorem truth_bools {prog : Program} {w : World} {A : Around} {bs : List Bool} {its : List Value} (e : its = bs.map Value.bool) :
    TruthOf prog w A (fun i v => its.toArray[i]? = some v) (fun i => bs.getD i false) := fun i v s Q E hv hq => by
  have hv' : its[i]? = some v := by simpa using hv
  rw [e, List.getElem?_map] at hv'
  obtain ⟨b, hb, rfl⟩ := Option.map_eq_some_iff.mp hv'
  have hg : bs.getD i false = b := by rw [List.getD_eq_getElem?_getD, hb] <;> rfl
  have hq' : Q (bs.getD i false) s := hq
  rw [hg] at hq'
  exact wpAny_truthy_bool hq'
theorem any_range : ∀ bs : List Bool, (List.range bs.length).any (fun i => bs.getD i false) = bs.any id
  | [] => rfl
  | b :: bs => by
    rw [List.length_cons, List.range_succ_eq_map, List.any_cons, List.any_map, List.any_cons, ← any_range bs]
    all_goals rfl
section
variable {X : Cx}
def rAny (K : PySem.W.Frag) : List V → Hp → VK → Prop := fun vs H Q => ∃ (a : Addr) (bs : List Bool), vs = [V.ref a] ∧ SqL K H a (bs.map V.bl) ∧ Q (.bl (bs.any id)) H
def rAll (K : PySem.W.Frag) : List V → Hp → VK → Prop := fun vs H Q => ∃ (a : Addr) (bs : List Bool), vs = [V.ref a] ∧ SqL K H a (bs.map V.bl) ∧ Q (.bl (bs.all id)) H
theorem cr_any (hc : X.calm = true) : CallR X (.builtin "any") (rAny X.K) := by
  intro pins s σ H vs us Q I r h
  obtain ⟨a, bs, rfl, hs, q⟩ := h
  obtain ⟨its, rv, hl, _⟩ := I.list hs
  rw [Vals.ref1 r]
  have hb := rv.bls
  refine call_any_walk (iter_any hl.isList fun s₂ e2 st hne => ?_)
  subst e2
  refine ⟨_, _, _, _, _, _, _, rfl, Walks.list (A := X.A.in1) (I.ok.hd hc) _ a hne its.toArray, st, truth_bools hb, fun h' tk hk => ?_⟩
  refine ⟨.bl _, H, I.kept fun b o eo => hk b o (fun hmem => ?_) (Heap.get?_push_of_some _ eo), ?_, q⟩
  · rcases List.mem_cons.mp hmem with e1 | hmem
    · exact absurd (e1 ▸ Heap.lt_size eo) (Nat.lt_irrefl _)
    · cases hmem
  · show Value.bool _ = Value.bool _
    rw [← any_range, hb, List.size_toArray, List.length_map]
end

/-! ### == and != of data at any depth: none, bools, ints, texts, lists, tuples -/
mutual
inductive Dp (K : PySem.W.Frag) (H : Hp) : V → PyData → Prop
  | non : Dp K H .non .none
  | bl (b : Bool) : Dp K H (.bl b) (.bool b)
  | int (i : Int) : Dp K H (.int i) (.int i)
  | str (x : Str) : Dp K H (.str x) (.str x)
  | lst {a : Addr} {xs : List V} {ds : List PyData} : SqL K H a xs → DpAll K H xs ds → Dp K H (.ref a) (.list ds)
  | tup {a : Addr} {xs : List V} {ds : List PyData} : SqT K H a xs → DpAll K H xs ds → Dp K H (.ref a) (.tuple ds)
inductive DpAll (K : PySem.W.Frag) (H : Hp) : List V → List PyData → Prop
  | nil : DpAll K H [] []
  | cons {v : V} {vs : List V} {d : PyData} {ds : List PyData} : Dp K H v d → DpAll K H vs ds → DpAll K H (v :: vs) (d :: ds)
end
section
variable {X : Cx} {pins : List (Addr × Obj)} {σ : St} {H : Hp} {s : Shared}
end
section
variable {X : Cx}
def rEqD (K : PySem.W.Frag) : R2 := fun x y H Q => ∃ d e, Dp K H x d ∧ Dp K H y e ∧ SeqAt.shaped d = true ∧ SeqAt.shaped e = true ∧ Q (.bl (PyData.eqv d e)) H
def rNeD (K : PySem.W.Frag) : R2 := fun x y H Q => ∃ d e, Dp K H x d ∧ Dp K H y e ∧ SeqAt.shaped d = true ∧ SeqAt.shaped e = true ∧ Q (.bl (!PyData.eqv d e)) H
end
end L2

namespace L2
open PySem PySem.Spec PyProof.Rows
abbrev CellAt (h : Heap) (c : Addr) (v : Option Value) : Prop := h.IsCell c v
def relS (scope sc : Scope) : Scope :=
  { scope with names := scope.names.map fun (n, k) => if (k == .free && sc.kind == .function && sc.names.lookup n == some .cell) then (n, .cell) else (n, k) }

def cloFrom (cells : List (Str × Addr)) : List (Str × NameKind) → List (Str × Addr) → List (Str × Addr)
  | [], acc => acc
  | (n, k) :: r, acc => if k == .free then cloFrom cells r ((n, (cells.lookup n).getD 0) :: acc) else cloFrom cells r acc

theorem closure_loop (env : Env) (f : Str × NameKind → List (Str × Addr) → Sem (ForInStep (List (Str × Addr))))
    (hf : ∀ n k c, f (n, k) c = if k == .free then (do let a ← cellOf env n; pure (.yield ((n, a) :: c))) else pure (.yield c)) :
    ∀ (names : List (Str × NameKind)) (acc : List (Str × Addr)), (∀ y ∈ names, y.2 = .free → ∃ c, env.cells.lookup y.1 = some c) → forIn names acc f = pure (cloFrom env.cells names acc)
  | [], acc, _ => by rw [List.forIn_nil]; rfl
  | (n, k) :: r, acc, h => by
    rw [List.forIn_cons, hf]
    have ih := fun acc => closure_loop env f hf r acc fun y hy => h y (List.mem_cons_of_mem _ hy)
    unfold cloFrom
    by_cases hk : (k == NameKind.free) = true
    · rw [if_pos hk, if_pos hk]
      obtain ⟨c, hc⟩ := h (n, k) List.mem_cons_self (by simpa using hk)
      have e : cellOf env n = pure c := by unfold cellOf; rw [hc]
      rw [e]
      have e2 : (env.cells.lookup n).getD 0 = c := by rw [hc]; rfl
      rw [e2]
      exact ih _
    · rw [if_neg hk, if_neg hk]
      exact ih _
theorem closure_ok {scope : Scope} {env : Env} (h : ∀ y ∈ scope.names, y.2 = .free → ∃ c, env.cells.lookup y.1 = some c) : closureFor scope env = pure (cloFrom env.cells scope.names []) := by
  simp only [closureFor]
  rw [closure_loop env _ (fun n k c => rfl) scope.names [] h]
  rfl

theorem mem_lookup {α : Type} : ∀ {l : List (Str × α)} {n : Str} {c : α}, (n, c) ∈ l → ∃ c', l.lookup n = some c'
  | (k, v) :: r, n, c, h => by
    rw [List.lookup_cons]
    cases hb : n == k with
    | true => exact ⟨_, rfl⟩
    | false =>
      rcases List.mem_cons.mp h with e | h
      · cases e; simp at hb
      · exact mem_lookup h

theorem cloFrom_mem {cells : List (Str × Addr)} : ∀ {names : List (Str × NameKind)} {acc : List (Str × Addr)} {n : Str} {c : Addr}, (n, c) ∈ cloFrom cells names acc → (n, c) ∈ acc ∨ ((n, .free) ∈ names ∧ c = (cells.lookup n).getD 0)
  | [], _, _, _, h => .inl h
  | (m, k) :: r, acc, n, c, h => by
    unfold cloFrom at h
    split at h
    · rename_i hk
      have hk : k = .free := by simpa using hk
      rcases cloFrom_mem h with h | ⟨h1, h2⟩
      · rcases List.mem_cons.mp h with e | h
        · cases e; exact .inr ⟨hk ▸ List.mem_cons_self, rfl⟩
        · exact .inl h
      · exact .inr ⟨List.mem_cons_of_mem _ h1, h2⟩
    · rcases cloFrom_mem h with h | ⟨h1, h2⟩
      · exact .inl h
      · exact .inr ⟨List.mem_cons_of_mem _ h1, h2⟩
theorem cloFrom_acc {cells : List (Str × Addr)} : ∀ {names : List (Str × NameKind)} {acc : List (Str × Addr)} {p : Str × Addr}, p ∈ acc → p ∈ cloFrom cells names acc
  | [], _, _, h => h
  | (m, k) :: r, acc, p, h => by
    unfold cloFrom
    split
    · exact cloFrom_acc (List.mem_cons_of_mem _ h)
    · exact cloFrom_acc h
theorem cloFrom_has {cells : List (Str × Addr)} : ∀ {names : List (Str × NameKind)} {acc : List (Str × Addr)} {n : Str}, (n, .free) ∈ names → (n, (cells.lookup n).getD 0) ∈ cloFrom cells names acc
  | (m, k) :: r, acc, n, h => by
    unfold cloFrom
    rcases List.mem_cons.mp h with e | h
    · cases e
      exact cloFrom_acc List.mem_cons_self
    · split
      · exact cloFrom_has h
      · exact cloFrom_has h

theorem cells_mem : ∀ {names : List (Str × NameKind)} {h : Heap} {acc : List (Str × Addr)} {x : Str} {c : Addr}, (x, c) ∈ cellsFrom h.objs.size names acc →
    (x, c) ∈ acc ∨ ((x, .cell) ∈ names ∧ h.objs.size ≤ c ∧ CellAt (pushCells h names) c none)
  | [], _, _, _, _, h => .inl h
  | (n, k) :: r, h, acc, x, c, hm => by
    unfold cellsFrom at hm
    unfold pushCells
    split at hm
    · rename_i hk
      rw [if_pos hk]
      have hk : k = .cell := by simpa using hk
      rw [← Heap.size_push h { cls := .type "cell", data := .cell none }] at hm
      rcases cells_mem hm with hm | ⟨h1, h2, h3⟩
      · rcases List.mem_cons.mp hm with e | hm
        · cases e
          exact .inr ⟨hk ▸ List.mem_cons_self, Nat.le_refl _, _, pushCells_keeps r _ _ _ (Heap.get?_push_size _ rfl), rfl⟩
        · exact .inl hm
      · rw [Heap.size_push] at h2
        exact .inr ⟨List.mem_cons_of_mem _ h1, Nat.le_of_succ_le h2, h3⟩
    · rename_i hk
      rw [if_neg hk]
      rcases cells_mem hm with hm | ⟨h1, h2, h3⟩
      · exact .inl hm
      · exact .inr ⟨List.mem_cons_of_mem _ h1, h2, h3⟩
theorem cells_acc : ∀ {names : List (Str × NameKind)} {n : Nat} {acc : List (Str × Addr)} {p : Str × Addr}, p ∈ acc → p ∈ cellsFrom n names acc
  | [], _, _, _, h => h
  | (m, k) :: r, n, acc, p, h => by
    unfold cellsFrom
    split
    · exact cells_acc (List.mem_cons_of_mem _ h)
    · exact cells_acc h
theorem cells_has : ∀ {names : List (Str × NameKind)} {n : Nat} {acc : List (Str × Addr)} {x : Str}, (x, .cell) ∈ names → ∃ c, (x, c) ∈ cellsFrom n names acc
  | (m, k) :: r, n, acc, x, h => by
    unfold cellsFrom
    rcases List.mem_cons.mp h with e | h
    · cases e
      exact ⟨n, cells_acc List.mem_cons_self⟩
    · split
      · exact cells_has h
      · exact cells_has h
theorem cells_inj : ∀ {names : List (Str × NameKind)} {h : Heap} {acc : List (Str × Addr)} {x y : Str} {c : Addr}, (∀ p ∈ acc, p.2 < h.objs.size) → (∀ x y c, (x, c) ∈ acc → (y, c) ∈ acc → x = y) →
    (x, c) ∈ cellsFrom h.objs.size names acc → (y, c) ∈ cellsFrom h.objs.size names acc → x = y
  | [], _, _, _, _, _, _, hi, h1, h2 => hi _ _ _ h1 h2
  | (n, k) :: r, h, acc, x, y, c, hl, hi, h1, h2 => by
    unfold cellsFrom at h1 h2
    split at h1
    · rename_i hk
      rw [if_pos hk] at h2
      rw [← Heap.size_push h { cls := .type "cell", data := .cell none }] at h1 h2
      refine cells_inj (h := h.push _) (fun p hp => ?_) (fun x y c a b => ?_) h1 h2
      · rw [Heap.size_push]
        rcases List.mem_cons.mp hp with rfl | hp
        · exact Nat.lt_succ_self _
        · exact Nat.lt_succ_of_lt (hl p hp)
      · rcases List.mem_cons.mp a with e | a <;> rcases List.mem_cons.mp b with e' | b
        · cases e; cases e'; rfl
        · cases e; exact absurd (hl _ b) (Nat.lt_irrefl _)
        · cases e'; exact absurd (hl _ a) (Nat.lt_irrefl _)
        · exact hi _ _ _ a b
    · rename_i hk
      rw [if_neg hk] at h2
      exact cells_inj hl hi h1 h2

theorem newEnv_comp {M : Model} {A : Around} {E : Value → Shared → Prop} {s : Shared} {scope : Scope} {globals : Addr} {closure : List (Str × Addr)} {qual : Str} {func : Option Addr} {code : Value} {around : Env} {builtins : Addr} {Q : Env → Shared → Prop}
    (h : Q (newEnv scope s.heap.objs.size globals (cellsFrom (s.heap.objs.size + 1) scope.names closure) qual func code (some around) builtins)
      { s with heap := pushCells (s.heap.push { cls := .type "dict", data := .dict #[] }) scope.names }) :
    wpAny M A (newFunctionEnv scope globals closure [] qual func code (some around) builtins) Q E s := by
  simp only [newFunctionEnv, Option.isSome_some, if_true]
  refine wpAny_bind (wpAny_alloc ?_)
  refine wpAny_bind (wpAny_layCells _ (fun n k c => rfl) scope.names closure _ _ ?_)
  rw [show ({ s with heap := s.heap.push { cls := .type "dict", data := .dict #[] } } : Shared).heap.objs.size = s.heap.objs.size + 1 from Heap.size_push ..]
  rw [List.forIn_nil]
  exact wpAny_bind (wpAny_pure (wpAny_pure h))

/-- every name of the written scope, in the scope that runs -/
theorem lookup_relS {sc : Scope} : ∀ {names : List (Str × NameKind)} {x : Str} {k : NameKind},
    (names.map fun (n, k) => if (k == NameKind.free && sc.kind == .function && sc.names.lookup n == some .cell) then (n, NameKind.cell) else (n, k)).lookup x = some k →
    ∃ k', names.lookup x = some k' ∧ (k = k' ∨ (k' = .free ∧ k = .cell))
  | [], _, _, h => by simp at h
  | (n, k₀) :: r, x, k, h => by
    have ih := @lookup_relS sc r x k
    have h' : List.lookup x ((if (k₀ == NameKind.free && sc.kind == .function && sc.names.lookup n == some .cell) = true then (n, NameKind.cell) else (n, k₀)) :: (r.map _)) = some k := h
    cases hx : x == n with
    | true =>
      simp only [List.lookup_cons, hx]
      by_cases hc : (k₀ == NameKind.free && sc.kind == .function && sc.names.lookup n == some .cell) = true
      · rw [if_pos hc] at h'
        simp only [List.lookup_cons, hx] at h'
        cases h'
        simp only [Bool.and_eq_true, beq_iff_eq] at hc
        exact ⟨k₀, rfl, .inr ⟨hc.1.1, rfl⟩⟩
      · rw [if_neg hc] at h'
        simp only [List.lookup_cons, hx] at h'
        cases h'
        exact ⟨_, rfl, .inl rfl⟩
    | false =>
      simp only [List.lookup_cons, hx]
      by_cases hc : (k₀ == NameKind.free && sc.kind == .function && sc.names.lookup n == some .cell) = true
      · rw [if_pos hc] at h'
        simp only [List.lookup_cons, hx] at h'
        exact ih h'
      · rw [if_neg hc] at h'
        simp only [List.lookup_cons, hx] at h'
        exact ih h'



/-- the names of a comprehension's block: its own (with their places in N), or captured -/
structure BlkOk (N : List Str) (sc scope : Scope) (own : List (Str × Nat)) : Prop where
  kind : scope.kind = .function
  uniq : ∀ y ∈ scope.names, scope.names.lookup y.1 = some y.2
  ix : ∀ p ∈ own, N[p.2]? = some p.1
  free : ∀ y ∈ scope.names, y.2 = .free → sc.names.lookup y.1 = some .cell ∨ sc.names.lookup y.1 = some .free
  own : ∀ y ∈ scope.names, y.2 = .local ∨ y.2 = .cell → y.1 ∈ own.map (·.1) ∨ y.1 ∉ N
/-- the slots of the block's own names forgotten -/
def wipe (σ : St) : List Nat → St
  | [] => σ
  | v :: vs => (wipe σ vs).set v none
theorem wipe_length (σ : St) : ∀ vs : List Nat, (wipe σ vs).length = σ.length
  | [] => rfl
  | v :: vs => by unfold wipe; rw [List.length_set, wipe_length σ vs]
theorem wipe_some {σ : St} {i : Nat} {x : V} : ∀ {vs : List Nat}, (wipe σ vs)[i]? = some (some x) → σ[i]? = some (some x) ∧ i ∉ vs
  | [], h => ⟨h, by simp⟩
  | v :: vs, h => by
    unfold wipe at h
    by_cases hi : v = i
    · subst hi
      by_cases hv : v < (wipe σ vs).length
      · rw [List.getElem?_set_self hv] at h; cases h
      · rw [List.getElem?_eq_none (by simpa using hv)] at h; cases h
    · rw [List.getElem?_set_ne hi] at h
      obtain ⟨h1, h2⟩ := wipe_some h
      exact ⟨h1, by simp only [List.mem_cons, not_or]; exact ⟨fun e => hi e.symm, h2⟩⟩

/-- the context of a block that starts at s, its iterator's objects at fp -/
abbrev Cx.blk (X : Cx) (s : Shared) (H : Hp) (scope : Scope) (cenv : Env) (fp : List Addr) : Cx := { X with s_0 := s, H_0 := H, env := cenv, outer := X.stack, ex := fp, fn := fun x => scope.names.lookup x == some .cell, pn := [], xe := fun _ _ => False }
section
variable {X : Cx} {pins : List (Addr × Obj)} {σ : St} {H : Hp} {s : Shared}
theorem block_start {scope : Scope} {own : List (Str × Nat)} {fp : List Addr} (I : Inv X pins σ H s) (ok : BlkOk X.N X.env.scope scope own) (hN : X.N.Nodup) (hfp : ∀ b ∈ fp, FpOk X pins H b ∧ b < s.heap.objs.size) :
    Inv (X.blk s H scope (compEnvC scope (cellsFrom (s.heap.objs.size + 1) scope.names (cloFrom X.env.cells scope.names [])) s.heap.objs.size X.env) fp) [] (wipe σ (own.map (·.2))) H { s with heap := pushCells (s.heap.push { cls := .type "dict", data := .dict #[] }) scope.names } := by
  have hfree : ∀ y ∈ scope.names, y.2 = .free → ∃ c, X.env.cells.lookup y.1 = some c := fun y hy e => by
    rcases ok.free y hy e with k | k
    · exact I.ok.has _ (.inl k)
    · exact I.ok.has _ (.inr k)
  generalize hcenv : compEnvC scope (cellsFrom (s.heap.objs.size + 1) scope.names (cloFrom X.env.cells scope.names [])) s.heap.objs.size X.env = cenv
  have kp : ∀ b o, s.heap.get? b = some o → (pushCells (s.heap.push { cls := .type "dict", data := .dict #[] }) scope.names).get? b = some o := fun b o e => pushCells_keeps _ _ _ _ (Heap.get?_push_of_some _ e)
  have hL : cenv.locals = s.heap.objs.size := by rw [← hcenv]; rfl
  have hcl : cenv.cells = cellsFrom (s.heap.objs.size + 1) scope.names (cloFrom X.env.cells scope.names []) := by rw [← hcenv]; rfl
  have hsc : cenv.scope = relS scope X.env.scope := by rw [← hcenv]; rfl
  rw [← Heap.size_push s.heap { cls := .type "dict", data := .dict #[] }] at hcl
  have cm : ∀ {y c}, (y, c) ∈ cloFrom X.env.cells scope.names [] → X.env.cells.lookup y = some c ∧ c < s.heap.objs.size := fun {y c} hm => by
    rcases cloFrom_mem hm with hm | ⟨h1, rfl⟩
    · cases hm
    · obtain ⟨c, hc⟩ := hfree _ h1 rfl
      rw [hc]
      obtain ⟨w, z⟩ := I.cell _ _ hc
      exact ⟨rfl, z.lt⟩
  have mem : ∀ {y c}, cenv.cells.lookup y = some c → (X.env.cells.lookup y = some c ∧ c < s.heap.objs.size) ∨ (s.heap.objs.size + 1 ≤ c ∧ CellAt (pushCells (s.heap.push { cls := .type "dict", data := .dict #[] }) scope.names) c none) := fun {y c} e => by
    rw [hcl] at e
    rcases cells_mem (PySem.mem_of_lookup e) with hm | ⟨_, h2, h3⟩
    · exact .inl (cm hm)
    · rw [Heap.size_push] at h2; exact .inr ⟨h2, h3⟩
  have look : ∀ {y}, scope.names.lookup y = some .free → ∃ c, cenv.cells.lookup y = some c ∧ X.env.cells.lookup y = some c := fun {y} hl => by
    have hy : (y, NameKind.free) ∈ scope.names := PySem.mem_of_lookup hl
    obtain ⟨c', e'⟩ := mem_lookup (cells_acc (names := scope.names) (n := (s.heap.push { cls := .type "dict", data := .dict #[] }).objs.size) (cloFrom_has (cells := X.env.cells) (acc := []) hy))
    rw [← hcl] at e'
    refine ⟨c', e', ?_⟩
    rw [hcl] at e'
    rcases cells_mem (PySem.mem_of_lookup e') with hm | ⟨h1, _, _⟩
    · exact (cm hm).1
    · have := ok.uniq _ h1
      rw [hl] at this; cases this
  have okB : (X.blk s H scope cenv fp).Ok := by
    refine ⟨I.ok.mod, by show cenv.scope.kind = _; rw [hsc]; exact ok.kind, by show cenv.globals = _; rw [← hcenv]; exact I.ok.glob, by show cenv.builtins = _; rw [← hcenv]; exact I.ok.blt, by show s.heap.objs.size ≤ cenv.locals; rw [hL]; exact Nat.le_refl _,
      fun y z c e1 e2 => ?_, fun y hy => ?_, fun y c z e => ?_, I.ok.hd, I.ok.frames, .inl rfl, fun b hb => ⟨?_, fun y c e z => ?_⟩, I.bs, Nat.le_trans I.ok.bsz I.sz, fun b o e hb => ?_, fun b hb z => ?_, I.stack, I.stkFree⟩
    · have e1 : cenv.cells.lookup y = some c := e1
      have e2 : cenv.cells.lookup z = some c := e2
      rw [hcl] at e1 e2
      refine cells_inj (fun p hp => ?_) (fun y z c a b => I.ok.inj y z c (cm a).1 (cm b).1) (PySem.mem_of_lookup e1) (PySem.mem_of_lookup e2)
      rw [Heap.size_push]
      exact Nat.lt_succ_of_lt (cm (y := p.1) (c := p.2) hp).2
    · show ∃ c, cenv.cells.lookup y = some c
      have key : ∀ k, cenv.kindOf y = some k → (k = .cell ∨ k = .free) → ∃ c, cenv.cells.lookup y = some c := fun k hk hk' => by
        unfold Env.kindOf at hk
        rw [hsc] at hk
        obtain ⟨k', e, r⟩ := lookup_relS hk
        have : k' = .cell ∨ k' = .free := by
          rcases r with rfl | ⟨rfl, _⟩
          · exact hk'
          · exact .inr rfl
        rcases this with rfl | rfl
        · obtain ⟨c, hm⟩ := cells_has (n := (s.heap.push { cls := .type "dict", data := .dict #[] }).objs.size) (acc := cloFrom X.env.cells scope.names []) (PySem.mem_of_lookup e)
          obtain ⟨c', e'⟩ := mem_lookup hm
          exact ⟨c', by rw [hcl]; exact e'⟩
        · obtain ⟨c, h1, _⟩ := look e
          exact ⟨c, h1⟩
      rcases hy with hy | hy
      · exact key _ hy (.inl rfl)
      · exact key _ hy (.inr rfl)
    · have z : (scope.names.lookup y == some NameKind.cell) = true := z
      have z : scope.names.lookup y = some .cell := by simpa using z
      have e : cenv.cells.lookup y = some c := e
      rw [hcl] at e
      rcases cells_mem (PySem.mem_of_lookup e) with hm | ⟨_, h2, _⟩
      · rcases cloFrom_mem hm with hm | ⟨h1, _⟩
        · cases hm
        · have q := ok.uniq _ h1
          rw [z] at q; cases q
      · rw [Heap.size_push] at h2
        exact Nat.le_of_succ_le h2
    · show b ≠ cenv.locals
      rw [hL]; exact Nat.ne_of_lt (hfp b hb).2
    · have e : cenv.cells.lookup y = some c := e
      rcases mem e with ⟨h1, _⟩ | ⟨h1, _⟩
      · exact (hfp b hb).1.2.2.2.2.1 y c h1 z
      · have h2 : s.heap.objs.size + 1 ≤ b := by rw [← z]; exact h1
        exact absurd (Nat.lt_of_lt_of_le (hfp b hb).2 (Nat.le_of_succ_le h2)) (Nat.lt_irrefl _)
    · rcases (hfp b hb).1.2.2.2.1 with z | z
      · exact I.ok.noex b o e z
      · exact absurd (Nat.lt_of_lt_of_le (Heap.lt_size e) (Nat.le_trans I.ok.bsz z)) (Nat.lt_irrefl _)
    · rcases List.mem_cons.mp (I.stkSub b z) with z | z
      · exact (hfp b hb).1.2.1 z
      · exact (hfp b hb).1.2.2.1 z
  refine ⟨okB, rfl, I.bare, Un.kept kp, ⟨fun _ => none, ?_, fun i y av e1 e2 e3 => ?_⟩, fun y c e => ?_, ?_, fun y c e => ?_, fun p hp => ?_, I.hok.kept kp, by rw [wipe_length]; exact I.len⟩
  · show Heap.Ns _ cenv.locals _
    rw [hL]
    exact Heap.Ns.keeps (Heap.Ns.new ..) fun b o e => pushCells_keeps _ _ _ _ e
  · obtain ⟨e2, hne⟩ := wipe_some e2
    have hfr : scope.names.lookup y = some .free ∧ (cenv.kindOf y = some .cell ∨ cenv.kindOf y = some .free) := by
      have key : ∀ k, cenv.scope.names.lookup y = some k → k = .local ∨ k = .cell ∨ k = .free → scope.names.lookup y = some .free ∧ (cenv.kindOf y = some .cell ∨ cenv.kindOf y = some .free) := fun k hk hk' => by
        have hk0 := hk
        rw [hsc] at hk
        obtain ⟨k', e, r⟩ := lookup_relS hk
        have no : ¬ (k' = .local ∨ k' = .cell) := fun hh => by
          rcases ok.own _ (PySem.mem_of_lookup e) hh with e' | e'
          · obtain ⟨p, hp, hpy⟩ := List.mem_map.mp e'
            have e3 := ok.ix p hp
            have : p.1 = y := hpy
            rw [this] at e3
            exact hne (List.mem_map.mpr ⟨p, hp, nodup_ix hN e3 e1⟩)
          · exact e' (List.mem_of_getElem? e1)
        rcases r with rfl | ⟨rfl, rfl⟩
        · rcases hk' with rfl | rfl | rfl
          · exact absurd (.inl rfl) no
          · exact absurd (.inr rfl) no
          · exact ⟨e, .inr hk0⟩
        · exact ⟨e, .inl hk0⟩
      have e3 : Vis cenv.scope y := e3
      rcases e3 with e3 | e3 | e3
      · exact key _ e3 (.inl rfl)
      · exact key _ e3 (.inr (.inl rfl))
      · exact key _ e3 (.inr (.inr rfl))
    obtain ⟨m, hn, hl⟩ := I.loc
    have hvis : Vis X.env.scope y := (ok.free _ (PySem.mem_of_lookup hfr.1) rfl).elim (fun k => .inr (.inl k)) (fun k => .inr (.inr k))
    obtain ⟨w, r, q⟩ := hl i y av e1 e2 hvis
    refine ⟨w, r, .inr ⟨hfr.2, ?_⟩⟩
    obtain ⟨c, h1, h2⟩ := look hfr.1
    rcases q with ⟨k, _⟩ | ⟨_, c', e', z⟩
    · have k : X.env.scope.names.lookup y = some .local := k
      rcases ok.free _ (PySem.mem_of_lookup hfr.1) rfl with k' | k' <;> rw [show X.env.scope.names.lookup y = _ from k'] at k <;> cases k
    · rw [h2] at e'; cases e'
      exact ⟨c, h1, z.keeps kp⟩
  · have e : cenv.cells.lookup y = some c := e
    rcases mem e with ⟨h1, _⟩ | ⟨_, z⟩
    · obtain ⟨w, z⟩ := I.cell y c h1
      exact ⟨w, z.keeps kp⟩
    · exact ⟨_, z⟩
  · show H cenv.locals = none
    rw [hL]; exact I.hok.fresh (Nat.le_refl _)
  · have e : cenv.cells.lookup y = some c := e
    rcases mem e with ⟨h1, _⟩ | ⟨h1, _⟩
    · exact I.freeC y c h1
    · exact I.hok.fresh (Nat.le_of_succ_le h1)
  · exact absurd (show p ∈ ([] : List (Addr × Obj)) ++ [] from hp) (by simp)

/-- an item appended to a tracked list -/
theorem app_ok {E : Value → Shared → Prop} {D : Addr} {xs : List V} {y : V} {v : Value} {Q : Value → Shared → Prop} (I : Inv X pins σ H s) (hD : H D = some (.lst xs)) (hz : xs.length < sizeLine) (r : RelV y v)
    (h : ∀ s', Inv X pins σ (upd H D (.lst (xs ++ [y]))) s' → Q .none s') : wpAny (model X.prog X.w) X.A (call (.builtin "list.append") [.ref D, v]) Q E s := by
  obtain ⟨hz', its, n, ri, e⟩ := I.hok D _ hD
  have hl := ri.length
  refine append_at (hsz := by rw [List.size_toArray]; omega) e fun h' sb ho' => ?_
  refine h { s with heap := h' } (I.write (t' := s.toks) (by rw [hD]; trivial) (.inl rfl) (fun b u hb q => (sb.2 b hb).trans q) ⟨_, ho'⟩ ⟨by rw [List.length_append]; exact hz, its ++ [v], n + 1, ri.append (.cons r .nil), ?_⟩)
  rw [ho']
  simp

/-- a clause's tests -/
def PTs (X : Cx) (ifs : List Expr) (t : TT) : Prop :=
  ∀ (pins : List (Addr × Obj)) (s : Shared) (σ : St) (H : Hp) (Q : Bool → Hp → Prop), Inv X pins σ H s → t σ H Q →
    wpAny (model X.prog X.w) X.A (forIn ifs true fun c r => if r = true then do let ok ← isTrue c X.env (eval c X.env); pure (ForInStep.yield ok) else pure (ForInStep.yield r)) (TP X pins σ Q) X.xe s
def tYes : TT := fun _ H Q => Q true H
theorem pts_nil : PTs X [] tYes := fun _ _ _ H _ I h => wpAny_tests_nil ⟨H, I, h⟩
theorem pts_one {c : Expr} {t : TT} (h : PT X c t) : PTs X [c] t := fun pins s σ H Q I hw => wpAny_tests_one (h pins s σ H Q I hw)
end

theorem thnF {α : Type} {t : Sem α} {Q Q' : α → Shared → Prop} {M : Model} {A : Around} {E : Value → Shared → Prop} {s : Shared} (h : wpAny M A t Q (fun _ _ => False) s) (hQ : ∀ a s, Q a s → Q' a s) : wpAny M A t Q' E s := wpAny_mono h hQ fun _ _ z => False.elim z

/-- the loop of a list comprehension's block, the target of any form (codeAny_compLoop_tests asks a target that no tuple goes to; statement and proof follow it, PyProof/CompMap.lean:41-61, with the step letOwnedTupleGo kept) -/
theorem compLoop_any {prog : Program} {w : World} {A : Around} {R : Result → Shared → Prop} {s : Shared} {elt target iter : Expr} {ifs : List Expr} {scope : Scope} {pos : Pos} {it acc : Value} {env : Env} (I : Nat → Shared → Prop)
    (turn : ∀ n s, I n s → wpAny (model prog w) A (pyNext it) (fun r s₁ => match r with
      | none => R (.ok .next) s₁
      | some v => wpAny (model prog w) A (letOwnedTupleGo target it v) (fun _ s₁' => wpAny (model prog w) A (assign target env v) (fun _ s₂ =>
          wpAny (model prog w) A (forIn ifs true fun c r => if r = true then do let ok ← isTrue c env (eval c env); pure (ForInStep.yield ok) else pure (ForInStep.yield r)) (fun ok s₃ =>
            if ok = true then wpAny (model prog w) A (eval elt env) (fun x s₄ =>
              wpAny (model prog w) A (call (.builtin "list.append") [acc, x]) (fun _ s₅ => ∃ m, m < n ∧ I m s₅) (notedBy (model prog w) A env fun e s' => R (.error e) s') s₄) (notedBy (model prog w) A env fun e s' => R (.error e) s') s₃
            else ∃ m, m < n ∧ I m s₃) (notedBy (model prog w) A env fun e s' => R (.error e) s') s₂) (notedBy (model prog w) A env fun e s' => R (.error e) s') s₁') (notedBy (model prog w) A env fun e s' => R (.error e) s') s₁) (notedBy (model prog w) A env fun e s' => R (.error e) s') s)
    (n : Nat) (h : I n s) :
    codeAny (model prog w) A (.compLoop (.ListComp elt [⟨target, iter, ifs, 0⟩] scope pos) 0 it acc env) R s := by
  refine codeAny_loop rfl I (fun n s hI => ?_) n h
  show wpAny _ A ((compTurn (.ListComp elt [⟨target, iter, ifs, 0⟩] scope pos) 0 it acc env).onRaise (fun x => do noteFrame x env; theTreesLotGoes x)) _ _ s
  refine wpAny_noted ?_
  rw [compTurn_list]
  refine wpAny_bind (wpAny_standAt (wpAny_bind (wpAny_mono (turn n s hI) (fun r s₁ h₁ => ?_) fun _ _ h' => h')))
  cases r with
  | none => exact wpAny_pure h₁
  | some v =>
    refine wpAny_bind (wpAny_mono h₁ (fun _ s₁' h₁' => ?_) fun _ _ h' => h')
    refine wpAny_bind (wpAny_mono h₁' (fun _ s₂ h₂ => wpAny_bind (wpAny_mono h₂ (fun ok s₃ h₃ => ?_) fun _ _ h' => h')) fun _ _ h' => h')
    cases ok with
    | false => exact wpAny_pure ⟨rfl, h₃⟩
    | true =>
      exact wpAny_bind (wpAny_bind (wpAny_mono h₃ (fun x s₄ h₄ => wpAny_bind (wpAny_mono h₄ (fun _ s₅ h₅ => wpAny_pure (wpAny_pure ⟨rfl, h₅⟩)) fun _ _ h' => h')) fun _ _ h' => h'))

section
variable {X : Cx}
/-- [elt for target in iter if ..]: D the new list; W by the turn and a measure, Nx what a turn is to reach -/
def tLc (wi : TI) (g : TG) (tt : TT) (te : TE) (vs : List Nat) : TE := fun σ H Q => wi σ H fun J H1 => ∀ D, H1 D = none → ∃ W : Nat → Nat → Hp → Prop, (∃ m, W 0 m (upd H1 D (.lst []))) ∧ ∀ i m H, W i m H →
  (J.stop i H ∧ Q (.ref D) H) ∨ (J.go i H ∧ ∃ Nx : Hp → Prop, (∀ H', Nx H' → ∃ m', m' < m ∧ W (i + 1) m' H') ∧ ∀ x H', J.yld i H x H' → g x (wipe σ vs) H' fun σ2 H2 => wipe σ2 vs = wipe σ vs ∧ tt σ2 H2 fun b H3 =>
    if b = true then te σ2 H3 fun y H4 => ∃ acc, H4 D = some (.lst acc) ∧ acc.length < sizeLine ∧ Nx (upd H4 D (.lst (acc ++ [y]))) else Nx H3)
theorem lc_core {pins : List (Addr × Obj)} {s : Shared} {σ : St} {H : Hp} {Q : VK} {elt tg iter : Expr} {ifs : List Expr} {scope : Scope} {own : List (Str × Nat)} {pos pos' : Pos} {wi : TI} {g : TG} {tt : TT} {te : TE} {use : Option (Value → Sem Unit)} {Qf : Value → Shared → Prop}
    (hc : X.calm = true) (hN : X.N.Nodup) (I : Inv X pins σ H s) (hi : PI X tg iter wi) (ok : BlkOk X.N X.env.scope scope own)
    (hg : ∀ (s : Shared) (H : Hp) (C : Addr) (cl : List (Str × Addr)) (fp : List Addr), PG (X.blk s H scope (compEnvC scope cl C X.env) fp) tg g) (ht : ∀ (s : Shared) (H : Hp) (C : Addr) (cl : List (Str × Addr)) (fp : List Addr), PTs (X.blk s H scope (compEnvC scope cl C X.env) fp) ifs tt)
    (he : ∀ (s : Shared) (H : Hp) (C : Addr) (cl : List (Str × Addr)) (fp : List Addr), PE (X.blk s H scope (compEnvC scope cl C X.env) fp) elt te) (hs : ∀ x, foldedSetIterable iter X.env x = pure x)
    (h : tLc wi g tt te (own.map (·.2)) σ H Q)
    (hRR : ∀ D C s' m H', Inv X pins σ H' s' → Q (.ref D) H' → s'.heap.Ns C m → FpOk X pins H' C → compPost (model X.prog X.w) X.A X.xe use Qf (.ref D) C (.ok .next) s') :
    wpAny (model X.prog X.w) X.A (comprehension (.ListComp elt [⟨tg, iter, ifs, 0⟩] scope pos) scope X.env pos' (newList []) false (eval iter X.env) use) Qf X.xe s := by
  have hfree : ∀ y ∈ scope.names, y.2 = .free → ∃ c, X.env.cells.lookup y.1 = some c := fun y hy e => by
    rcases ok.free y hy e with k | k
    · exact I.ok.has _ (.inl k)
    · exact I.ok.has _ (.inr k)
  refine wpAny_comprehension_free (use := use) rfl hs (closure_ok hfree) ok.kind (fun y hy e => by rw [ok.uniq y hy, e])
    (thn (hi pins s σ H _ I h) fun xv s1 hx => thn hx fun itv s2 h2 => ?_)
  obtain ⟨it, fp, tn, J, H2, e, I2, T, st2, f2, q⟩ := h2
  subst e
  refine wpAny_newObj_type (newEnv_comp ?_) (by show 0 ≤ sizeLine; decide)
  generalize hD : s2.heap.objs.size = D
  have hDn : H2 D = none := I2.hok.fresh (Nat.le_of_eq hD)
  obtain ⟨W, ⟨m0, w0⟩, turn⟩ := q D hDn
  -- the new list
  generalize hs3 : ({ s2 with heap := s2.heap.push { cls := .type "list", data := .seq ([] : List Value).toArray } } : Shared) = s3
  have I3 : Inv X pins σ (upd H2 D (.lst [])) s3 := by
    rw [← hs3]
    refine I2.laid (t' := s2.toks) (fun b o e => Heap.get?_push_of_some _ e) (Nat.le_of_eq hD) ⟨Nat.zero_le _, [], 0, .nil, ?_⟩
    rw [← hD]
    exact Heap.get?_push_size _ rfl
  have h3 : s3.heap = s2.heap.push { cls := .type "list", data := .seq ([] : List Value).toArray } := by rw [← hs3]
  have sz : ∀ b ∈ fp, b < s2.heap.objs.size := fun b hb => by
    obtain ⟨o, e, _⟩ := T.obj _ _ st2 b hb
    exact Heap.lt_size e
  have f3 : ∀ b ∈ fp, FpOk X pins (upd H2 D (.lst [])) b ∧ b < s3.heap.objs.size := fun b hb => by
    have hlt := sz b hb
    refine ⟨⟨?_, (f2 b hb).2⟩, by rw [h3, Heap.size_push]; exact Nat.lt_succ_of_lt hlt⟩
    rw [upd_ne (by rw [← hD]; exact Nat.ne_of_lt hlt)]
    exact (f2 b hb).1
  have st3 : tn 0 s3.heap := T.keep _ _ _ st2 fun b _ o e => by rw [h3]; exact Heap.get?_push_of_some _ e
  have I4 := block_start I3 ok hN f3
  have pg := hg s3 (upd H2 D (.lst [])) s3.heap.objs.size (cellsFrom (s3.heap.objs.size + 1) scope.names (cloFrom X.env.cells scope.names [])) fp
  have pt := ht s3 (upd H2 D (.lst [])) s3.heap.objs.size (cellsFrom (s3.heap.objs.size + 1) scope.names (cloFrom X.env.cells scope.names [])) fp
  have pe := he s3 (upd H2 D (.lst [])) s3.heap.objs.size (cellsFrom (s3.heap.objs.size + 1) scope.names (cloFrom X.env.cells scope.names [])) fp
  show codeAny _ _ (.compStart (.ListComp elt [⟨tg, iter, ifs, 0⟩] scope pos) 0 (.ref it) (.ref D) (compEnvC scope (cellsFrom (s3.heap.objs.size + 1) scope.names (cloFrom X.env.cells scope.names [])) s3.heap.objs.size X.env)) (compPost (model X.prog X.w) X.A X.xe use Qf (.ref D) s3.heap.objs.size) { s3 with heap := pushCells (s3.heap.push { cls := .type "dict", data := .dict #[] }) scope.names }
  have nfp : ∀ b ∈ fp, (upd H2 D (.lst [])) b = none := fun b hb => (f3 b hb).1.1
  generalize hce : compEnvC scope (cellsFrom (s3.heap.objs.size + 1) scope.names (cloFrom X.env.cells scope.names [])) s3.heap.objs.size X.env = ce at I4 pg pt pe ⊢
  have cL : ce.locals = s3.heap.objs.size := by subst hce; rfl
  generalize hH3 : upd H2 D (.lst []) = H3 at I3 I4 pg pt pe w0 nfp f3
  generalize hs4 : ({ s3 with heap := pushCells (s3.heap.push { cls := .type "dict", data := .dict #[] }) scope.names } : Shared) = s4 at I4 ⊢
  have st4 : tn 0 s4.heap := T.keep _ _ _ st3 fun b _ o e => by rw [← hs4]; exact pushCells_keeps _ _ _ _ (Heap.get?_push_of_some _ e)
  have stat : ∀ {σ' : St} {H' : Hp} {s' : Shared}, Inv (X.blk s3 H3 scope ce fp) [] σ' H' s' → (∀ b ∈ fp, H' b = none) → ∀ b ∈ fp, FpOk (X.blk s3 H3 scope ce fp) [] H' b := fun {σ' H' s'} I' hn b hb =>
    ⟨hn b hb, (I'.ok.exf b hb).1, I'.ok.exfs b hb, .inl hb, fun x c e => (I'.ok.exf b hb).2 x c e, fun p hp => absurd (show p ∈ ([] : List (Addr × Obj)) ++ [] from hp) (by simp)⟩
  have loop : codeAny (model X.prog X.w) X.A (.compLoop (.ListComp elt [⟨tg, iter, ifs, 0⟩] scope pos) 0 (.ref it) (.ref D) ce) (compPost (model X.prog X.w) X.A X.xe use Qf (.ref D) s3.heap.objs.size) s4 := by
    refine compLoop_any (fun n s' => ∃ i H', Inv (X.blk s3 H3 scope ce fp) [] (wipe σ (own.map (·.2))) H' s' ∧ tn i s'.heap ∧ (∀ b ∈ fp, H' b = none) ∧ W i n H') ?_ m0 ⟨0, H3, I4, st4, nfp, w0⟩
    rintro n s5 ⟨i, H5, I5, st5, n5, w5⟩
    rcases turn i n H5 w5 with ⟨stop, qq⟩ | ⟨go, Nx, hNx, step⟩
    · have td := T.done (X.blk s3 H3 scope ce fp) rfl rfl rfl hc i [] s5 _ H5 (fun _ _ => False) I5 (stat I5 n5) st5 stop
      refine thnF td fun r s6 ⟨hr, I6⟩ => ?_
      subst hr
      -- back in the def's context
      have I7 : Inv X pins σ H5 s6 := I3.call' (ch := fp) I6.os I6.base I6.hok I6.bare fun b hb => ⟨(f3 b hb).1.2.2.2.1, (f3 b hb).1.2.1, (f3 b hb).1.2.2.2.2.1, (f3 b hb).1.2.2.2.2.2⟩
      have nC : H5 s3.heap.objs.size = none := by
        have z : H5 ce.locals = none := I6.free
        rw [cL] at z
        exact z
      obtain ⟨m, hn, _⟩ := I6.loc
      have hn : s6.heap.Ns ce.locals m := hn
      rw [cL] at hn
      exact hRR D s3.heap.objs.size s6 m H5 I7 qq hn (I3.fpOk (Nat.le_refl _) nC)
    · have ti := T.item (X.blk s3 H3 scope ce fp) rfl rfl rfl hc i [] s5 _ H5 (fun _ _ => False) I5 (stat I5 n5) st5 go
      refine thnF ti fun r s6 ⟨u, hr, h6⟩ => ?_
      subst hr
      refine thnF h6 fun _ s7 ⟨x, H7, I7, r7, y7, st7, n7⟩ => ?_
      have I7' := I7.pinned (stat I7 n7) (T.obj _ _ st7)
      refine thnF (pg _ s7 _ H7 x u _ I7' r7 (step x H7 y7)) fun _ s8 ⟨σ8, H8, I8, hw8, q8⟩ => ?_
      refine thnF (pt _ s8 σ8 H8 _ I8 q8) fun b s9 ⟨H9, I9, q9⟩ => ?_
      -- the turn's end
      have fin : ∀ {s' : Shared} {H' : Hp}, Inv (X.blk s3 H3 scope ce fp) ([] ++ pinsAt fp s7.heap) σ8 H' s' → Nx H' → ∃ m, m < n ∧ ∃ i H', Inv (X.blk s3 H3 scope ce fp) [] (wipe σ (own.map (·.2))) H' s' ∧ tn i s'.heap ∧ (∀ b ∈ fp, H' b = none) ∧ W i m H' := fun {s' H'} I' nx => by
        obtain ⟨m', hm, w'⟩ := hNx H' nx
        have pin' : ∀ b ∈ fp, ∀ o, s7.heap.get? b = some o → s'.heap.get? b = some o ∧ H' b = none := fun b hb o e =>
          let z := I'.pin (b, o) (List.mem_append_right _ (List.mem_append_right _ (mem_pinsAt hb e)))
          ⟨z.1, z.2.1⟩
        have hl : (wipe σ (own.map (·.2))).length = σ8.length := by rw [← hw8, wipe_length]
        refine ⟨m', hm, i + 1, H', (I'.unpinned (pins := [])).weak hl (fun j v e => ?_), T.keep _ _ _ st7 fun b hb o e => (pin' b hb o e).1, fun b hb => ?_, w'⟩
        · rw [← hw8] at e
          exact (wipe_some e).1
        · obtain ⟨o, e, _⟩ := T.obj _ _ st7 b hb
          exact (pin' b hb o e).2
      cases b with
      | false =>
        simp only [Bool.false_eq_true, if_false] at q9 ⊢
        exact fin I9 q9
      | true =>
        simp only [if_true] at q9 ⊢
        refine thnF (pe _ s9 σ8 H9 _ I9 q9) fun z s10 ⟨yv, H10, I10, r10, acc, hD10, hz10, nx⟩ => ?_
        exact app_ok (X := X.blk s3 H3 scope ce fp) I10 hD10 hz10 r10 fun s11 I11 => fin I11 nx
  exact codeAny_compStart_list loop (T.self X.A 0 _ _ _ st4 loop)
/-- as a value -/
theorem pe_lc {elt tg iter : Expr} {ifs : List Expr} {scope : Scope} {own : List (Str × Nat)} {pos : Pos} {wi : TI} {g : TG} {tt : TT} {te : TE} (hc : X.calm = true) (hN : X.N.Nodup) (hi : PI X tg iter wi) (ok : BlkOk X.N X.env.scope scope own)
    (hg : ∀ (s : Shared) (H : Hp) (C : Addr) (cl : List (Str × Addr)) (fp : List Addr), PG (X.blk s H scope (compEnvC scope cl C X.env) fp) tg g) (ht : ∀ (s : Shared) (H : Hp) (C : Addr) (cl : List (Str × Addr)) (fp : List Addr), PTs (X.blk s H scope (compEnvC scope cl C X.env) fp) ifs tt)
    (he : ∀ (s : Shared) (H : Hp) (C : Addr) (cl : List (Str × Addr)) (fp : List Addr), PE (X.blk s H scope (compEnvC scope cl C X.env) fp) elt te) (hs : ∀ x, foldedSetIterable iter X.env x = pure x := by intro _; rfl) :
    PE X (.ListComp elt [⟨tg, iter, ifs, 0⟩] scope pos) (tLc wi g tt te (own.map (·.2))) := by
  intro pins s σ H Q I h
  rw [eval_ListComp]
  refine lc_core hc hN I hi ok hg ht he hs h fun D C s' m H' I' q hn f => ⟨m, hn, fun h'' sb => ?_⟩
  obtain ⟨f0, f1, f2, f3, f4, f5⟩ := f
  exact ⟨.ref D, H', I'.turned (t' := s'.toks) (fun b o hb e => (sb.2 b hb).trans e) f0 f1 f3 f4 f5, rfl, q⟩
end

/-! ### the forms one uses -/
/-- over a range: Pv by the turn and the heap (the new list at D within) -/
theorem lc_range {lo : Int} {n : Nat} {g : TG} {tt : TT} {te : TE} {vs : List Nat} {σ : St} {H1 : Hp} {D : Addr} {Qd : Hp → Prop} (Pv : Nat → Hp → Prop) (h0 : Pv 0 (upd H1 D (.lst [])))
    (hs : ∀ i H, i < n → Pv i H → g (.int (lo + i)) (wipe σ vs) H fun σ2 H2 => wipe σ2 vs = wipe σ vs ∧ tt σ2 H2 fun b H3 =>
      if b = true then te σ2 H3 fun y H4 => ∃ acc, H4 D = some (.lst acc) ∧ acc.length < sizeLine ∧ Pv (i + 1) (upd H4 D (.lst (acc ++ [y]))) else Pv (i + 1) H3) (hd : ∀ H, Pv n H → Qd H) :
    ∃ W : Nat → Nat → Hp → Prop, (∃ m, W 0 m (upd H1 D (.lst []))) ∧ ∀ i m H, W i m H →
      ((Itr lo n).stop i H ∧ Qd H) ∨ ((Itr lo n).go i H ∧ ∃ Nx : Hp → Prop, (∀ H', Nx H' → ∃ m', m' < m ∧ W (i + 1) m' H') ∧ ∀ x H', (Itr lo n).yld i H x H' → g x (wipe σ vs) H' fun σ2 H2 => wipe σ2 vs = wipe σ vs ∧ tt σ2 H2 fun b H3 =>
        if b = true then te σ2 H3 fun y H4 => ∃ acc, H4 D = some (.lst acc) ∧ acc.length < sizeLine ∧ Nx (upd H4 D (.lst (acc ++ [y]))) else Nx H3) := by
  refine ⟨fun i m H => m = n - i ∧ i ≤ n ∧ Pv i H, ⟨n, by simp, Nat.zero_le _, h0⟩, ?_⟩
  rintro i m H ⟨rfl, hi, p⟩
  by_cases hlt : i < n
  · refine .inr ⟨hlt, Pv (i + 1), fun H' p' => ⟨n - (i + 1), by omega, rfl, hlt, p'⟩, fun x H' y => ?_⟩
    obtain ⟨e, y⟩ := y
    subst e y
    exact hs i _ hlt p
  · have e : i = n := by omega
    subst e
    exact .inl ⟨Nat.le_refl _, hd H p⟩
/-- over a list that the block leaves as it is -/
theorem lc_list {K : PySem.W.Frag} {a : Addr} {xs : List V} {g : TG} {tt : TT} {te : TE} {vs : List Nat} {σ : St} {H1 : Hp} {D : Addr} {Qd : Hp → Prop} (Pv : Nat → Hp → Prop) (h0 : Pv 0 (upd H1 D (.lst []))) (hl : ∀ i H, i ≤ xs.length → Pv i H → SqL K H a xs)
    (hs : ∀ i x H, xs[i]? = some x → Pv i H → g x (wipe σ vs) H fun σ2 H2 => wipe σ2 vs = wipe σ vs ∧ tt σ2 H2 fun b H3 =>
      if b = true then te σ2 H3 fun y H4 => ∃ acc, H4 D = some (.lst acc) ∧ acc.length < sizeLine ∧ Pv (i + 1) (upd H4 D (.lst (acc ++ [y]))) else Pv (i + 1) H3) (hd : ∀ H, Pv xs.length H → Qd H) :
    ∃ W : Nat → Nat → Hp → Prop, (∃ m, W 0 m (upd H1 D (.lst []))) ∧ ∀ i m H, W i m H →
      ((Itl K a).stop i H ∧ Qd H) ∨ ((Itl K a).go i H ∧ ∃ Nx : Hp → Prop, (∀ H', Nx H' → ∃ m', m' < m ∧ W (i + 1) m' H') ∧ ∀ x H', (Itl K a).yld i H x H' → g x (wipe σ vs) H' fun σ2 H2 => wipe σ2 vs = wipe σ vs ∧ tt σ2 H2 fun b H3 =>
        if b = true then te σ2 H3 fun y H4 => ∃ acc, H4 D = some (.lst acc) ∧ acc.length < sizeLine ∧ Nx (upd H4 D (.lst (acc ++ [y]))) else Nx H3) := by
  refine ⟨fun i m H => m = xs.length - i ∧ i ≤ xs.length ∧ Pv i H, ⟨xs.length, by simp, Nat.zero_le _, h0⟩, ?_⟩
  rintro i m H ⟨rfl, hi, p⟩
  have q := hl i H hi p
  by_cases hlt : i < xs.length
  · refine .inr ⟨⟨xs, xs[i], q, by simp [hlt]⟩, Pv (i + 1), fun H' p' => ⟨xs.length - (i + 1), by omega, rfl, hlt, p'⟩, fun x H' y => ?_⟩
    obtain ⟨e, y⟩ := y
    subst e
    exact hs i x _ (y xs q) p
  · have e : i = xs.length := by omega
    subst e
    exact .inl ⟨⟨xs, q, Nat.le_refl _⟩, hd H p⟩
def blkC (N : List Str) (sc scope : Scope) (own : List (Str × Nat)) : Bool :=
  (match scope.kind with | .function => true | _ => false) && (scope.names.all fun y => decide (scope.names.lookup y.1 = some y.2)) && (own.all fun p => decide (N[p.2]? = some p.1)) &&
    (scope.names.all fun y => match y.2 with
      | .free => (match sc.names.lookup y.1 with | some .cell => true | some .free => true | _ => false)
      | .local => decide (y.1 ∈ own.map (·.1)) || decide (y.1 ∉ N)
      | .cell => decide (y.1 ∈ own.map (·.1)) || decide (y.1 ∉ N)
      | _ => true)
theorem blkOk_by {N : List Str} {sc scope : Scope} {own : List (Str × Nat)} (h : blkC N sc scope own = true) : BlkOk N sc scope own := by
  unfold blkC at h
  simp only [Bool.and_eq_true, List.all_eq_true, decide_eq_true_eq] at h
  obtain ⟨⟨⟨h1, h2⟩, h3⟩, h4⟩ := h
  refine ⟨?_, h2, h3, fun y hy e => ?_, fun y hy e => ?_⟩
  · split at h1
    · assumption
    · cases h1
  · have q := h4 y hy
    simp only [e] at q
    split at q <;> first | exact .inl (by assumption) | exact .inr (by assumption) | cases q
  · have q := h4 y hy
    rcases e with e | e <;> (simp only [e, Bool.or_eq_true, decide_eq_true_eq] at q; exact q)
end L2

namespace L2
open PySem PySem.Spec PyProof.Rows


section
variable {prog : Program} {w : World} {A : Around} {R : Result → Shared → Prop} {s : Shared} {elt t0 i0 t1 i1 : Expr} {ifs0 ifs1 : List Expr} {scope : Scope} {pos : Pos} {it acc : Value} {env : Env}
end

section
variable {X : Cx}
/-- [elt for tg in iter if .. for tg1 in iter1 if ..]: behind the first clause's store and tests the second source's own loop, from which Nx is reached. vs: the block's names; vs1: those of the second target -/
def tLc2 (wi : TI) (g : TG) (tt : TT) (wi1 : TI) (g1 : TG) (tt1 : TT) (te : TE) (vs vs1 : List Nat) : TE := fun σ H Q => wi σ H fun J H1 => ∀ D, H1 D = none → ∃ W : Nat → Nat → Hp → Prop, (∃ m, W 0 m (upd H1 D (.lst []))) ∧ ∀ i m H, W i m H →
  (J.stop i H ∧ Q (.ref D) H) ∨ (J.go i H ∧ ∃ Nx : Hp → Prop, (∀ H', Nx H' → ∃ m', m' < m ∧ W (i + 1) m' H') ∧ ∀ x H', J.yld i H x H' → g x (wipe σ vs) H' fun σ2 H2 => wipe σ2 vs = wipe σ vs ∧ tt σ2 H2 fun b H3 =>
    if b = true then wi1 σ2 H3 fun J1 H4 => ∃ W1 : Nat → Nat → Hp → Prop, (∃ m, W1 0 m H4) ∧ ∀ j k H, W1 j k H →
      (J1.stop j H ∧ Nx H) ∨ (J1.go j H ∧ ∃ Nx1 : Hp → Prop, (∀ H', Nx1 H' → ∃ k', k' < k ∧ W1 (j + 1) k' H') ∧ ∀ x H', J1.yld j H x H' → g1 x (wipe σ2 vs1) H' fun σ3 H5 => wipe σ3 vs1 = wipe σ2 vs1 ∧ tt1 σ3 H5 fun b H6 =>
        if b = true then te σ3 H6 fun y H7 => ∃ acc, H7 D = some (.lst acc) ∧ acc.length < sizeLine ∧ Nx1 (upd H7 D (.lst (acc ++ [y]))) else Nx1 H6)
    else Nx H3)
end
end L2

namespace L2
open PySem PySem.Spec PyProof.Rows

/-! ### lists of pairs as tables -/
section
variable {κ : Type} [DecidableEq κ]
def valV (kvs : List (κ × V)) (k : κ) : Option V := (kvs.find? fun kv => decide (kv.1 = k)).map (·.2)
/-- in its place, or at the end -/
def putK (kvs : List (κ × V)) (k : κ) (v : V) : List (κ × V) :=
  if (kvs.any fun kv => decide (kv.1 = k)) = true then kvs.map (fun kv => if kv.1 = k then (kv.1, v) else kv) else kvs ++ [(k, v)]
def dropK (kvs : List (κ × V)) (k : κ) : List (κ × V) := kvs.filter fun kv => decide (kv.1 ≠ k)



end


/-! ### a tracked dict, its keys ints and texts or tuples of these -/

/-- raw entries of a dict with tuple keys -/
abbrev KT (H : Hp) : List (List Key × V) → List (List Key × Addr × Value) → Prop := Paired fun p q => p.1 = q.1 ∧ H q.2.1 = some (.tup (p.1.map kV)) ∧ RelV p.2 q.2.2

section
variable {P : Program} {w : World} {H : Hp} {h : Heap} {a : Addr}
end

/-- what the dict at a holds at the key y -/
def DGet (H : Hp) (a : Addr) (y : V) (r : Option V) : Prop :=
  (∃ kvs k, Rd H a (.dK kvs) ∧ y = kV k ∧ r = valV kvs k) ∨ ∃ kvs k b, Rd H a (.dT kvs) ∧ y = .ref b ∧ H b = some (.tup (k.map kV)) ∧ r = valV kvs k
/-- the heap behind a[y] = v -/
def DPut (H : Hp) (a : Addr) (y v : V) (H' : Hp) : Prop :=
  (∃ kvs k, H a = some (.dK kvs) ∧ y = kV k ∧ kvs.length < sizeLine ∧ H' = upd H a (.dK (putK kvs k v))) ∨
  ∃ kvs k b, H a = some (.dT kvs) ∧ y = .ref b ∧ H b = some (.tup (k.map kV)) ∧ kvs.length < sizeLine ∧ H' = upd H a (.dT (putK kvs k v))


section
variable {X : Cx} {pins : List (Addr × Obj)} {σ : St} {H : Hp} {s : Shared} {a : Addr} {y v : V} {u r : Value} {o : Option V} {A : Around} {E : Value → Shared → Prop}


end

section
variable {X : Cx} {pins : List (Addr × Obj)} {σ : St} {H : Hp} {s : Shared} {a : Addr} {kvs : List (Key × V)} {k : Key} {u : Value} {A : Around} {E : Value → Shared → Prop}
end


/-! ### readings and rules -/
/-- the element of a subscription, not a slice -/
def NoSl (i : Expr) : Prop := ∀ ov iv, subscripted i false ov iv = operate [ov, iv] (getItem ov iv)


/-- d[y] -/
def tDGet (td ty : TE) : TE := fun σ H Q => td σ H fun x H1 => ty σ H1 fun y H2 => ∃ a v, x = .ref a ∧ DGet H2 a y (some v) ∧ Q v H2
/-- y in d, y not in d -/
def tDIn (ty td : TE) : TE := fun σ H Q => ty σ H fun y H1 => td σ H1 fun x H2 => ∃ a o, x = .ref a ∧ DGet H2 a y o ∧ Q (.bl o.isSome) H2
def tDNotIn (ty td : TE) : TE := fun σ H Q => ty σ H fun y H1 => td σ H1 fun x H2 => ∃ a o, x = .ref a ∧ DGet H2 a y o ∧ Q (.bl (!o.isSome)) H2
/-- d[y] = v -/
def sDPut (td ty tv : TE) : TS := fun D σ H => tv σ H fun v H1 => td σ H1 fun x H2 => ty σ H2 fun y H3 => ∃ a H4, x = .ref a ∧ DPut H3 a y v H4 ∧ D.nx σ H4
/-- d[y] op= v -/
def sDAug (td ty tv : TE) (rd : V → V → Hp → VK → Prop) : TS := fun D σ H => td σ H fun x H1 => ty σ H1 fun y H2 => ∃ a v, x = .ref a ∧ DGet H2 a y (some v) ∧
  tv σ H2 fun y2 H3 => rd v y2 H3 fun z H4 => ∃ H5, DPut H4 a y z H5 ∧ D.nx σ H5
/-- del d[y] -/
def sDDel (td ty : TE) : TS := fun D σ H => td σ H fun x H1 => ty σ H1 fun y H2 => ∃ a kvs k, x = .ref a ∧ H2 a = some (.dK kvs) ∧ y = kV k ∧ (valV kvs k).isSome = true ∧ D.nx σ (upd H2 a (.dK (dropK kvs k)))

section
variable {X : Cx} {o i e value : Expr} {pos pos' tpos : Pos} {td ty tv : TE}
end


/-! ### displays -/
/-- {}, to be a dict of the kind that is wanted -/
def tDNewK : TE := fun _ H Q => ∀ p, H p = none → Q (.ref p) (upd H p (.dK []))
def tDNewT : TE := fun _ H Q => ∀ p, H p = none → Q (.ref p) (upd H p (.dT []))
section
variable {X : Cx} {pos : Pos}
end

/-- the pairs of a display, from the left -/
def tPairs : List (TE × TE) → St → Hp → (List (V × V) → Hp → Prop) → Prop
  | [], _, H, Q => Q [] H
  | (tk, tv) :: r, σ, H, Q => tk σ H fun x H1 => tv σ H1 fun y H2 => tPairs r σ H2 fun ps H3 => Q ((x, y) :: ps) H3
abbrev VV : List (V × V) → List (Value × Value) → Prop := Paired fun p q => RelV p.1 q.1 ∧ RelV p.2 q.2
def PPs (X : Cx) (pos : Pos) (keys : List (Option Expr)) (values : List Expr) (trs : List (TE × TE)) : Prop :=
  ∀ (pins : List (Addr × Obj)) (s : Shared) (σ : St) (H : Hp) (Q : List (V × V) → Hp → Prop), Inv X pins σ H s → tPairs trs σ H Q →
    wpAny (model X.prog X.w) X.A (evalPairs (pairTrees keys values X.env pos)) (fun vs s' => ∃ ps H', Inv X pins σ H' s' ∧ VV ps vs ∧ Q ps H') X.xe s

def mergeK (kvs more : List (Key × V)) : List (Key × V) := more.foldl (fun acc kv => putK acc kv.1 kv.2) kvs
/-- {k: v, ..} with keys ints and texts; the new dict stands empty while the pairs are made -/
def tDisp (trs : List (TE × TE)) : TE := fun σ H Q => ∀ p, H p = none → tPairs trs σ (upd H p (.dK [])) fun ps H2 => H2 p = some (.dK []) ∧ ∃ kvs : List (Key × V), ps = kvs.map (fun kv => (kV kv.1, kv.2)) ∧ kvs.length ≤ 15 ∧ Q (.ref p) (upd H2 p (.dK (mergeK [] kvs)))


/-! ### methods -/
/-- a method call o.m(e) of a built-in, with one argument: what must be seen of the text -/
structure M1 (X : Cx) (o : Expr) (m : Str) (apos : Pos) (e : Expr) (cpos : Pos) : Prop where
  base : attributeBase o m X.env (eval o X.env) = eval o X.env
  few : ((backTo cpos (starEach [e] X.env)).all (fun x => !x.1) && (backToKw cpos (keywordEach [] X.env)).all (fun x => x.1.isSome)
    && decide (([e] : List Expr).length + ([] : List Keyword).length + (if ([] : List Keyword).isEmpty then 0 else 1) < 30)) = true
  line : (apos.endLine == cpos.line) = true
  trees : backTo cpos (starEach [e] X.env) = [(false, eval e X.env)]
structure M2 (X : Cx) (o : Expr) (m : Str) (apos : Pos) (e f : Expr) (cpos : Pos) : Prop where
  base : attributeBase o m X.env (eval o X.env) = eval o X.env
  few : ((backTo cpos (starEach [e, f] X.env)).all (fun x => !x.1) && (backToKw cpos (keywordEach [] X.env)).all (fun x => x.1.isSome)
    && decide (([e, f] : List Expr).length + ([] : List Keyword).length + (if ([] : List Keyword).isEmpty then 0 else 1) < 30)) = true
  line : (apos.endLine == cpos.line) = true
  trees : backTo cpos (starEach [e, f] X.env) = [(false, eval e X.env), (false, eval f X.env)]

/-- a is a dict, whatever its keys -/
def IsD (H : Hp) (a : Addr) : Prop := (∃ kvs, Rd H a (.dK kvs)) ∨ ∃ kvs, Rd H a (.dT kvs)

section
variable {X : Cx} {pins : List (Addr × Obj)} {σ : St} {H : Hp} {s : Shared} {a : Addr} {y d : V} {u r : Value} {o : Option V} {A : Around} {E : Value → Shared → Prop}
end

def tDGet1 (td ty : TE) : TE := fun σ H Q => td σ H fun x H1 => ∃ a, x = .ref a ∧ IsD H1 a ∧ ty σ H1 fun y H2 => ∃ o, DGet H2 a y o ∧ Q (o.getD .non) H2
def tDGet2 (td ty tx : TE) : TE := fun σ H Q => td σ H fun x H1 => ∃ a, x = .ref a ∧ IsD H1 a ∧ ty σ H1 fun y H2 => tx σ H2 fun z H3 => ∃ o, DGet H3 a y o ∧ Q (o.getD z) H3
/-- d.pop(k): there; d.pop(k, x): there or not -/
def tDPop1 (td ty : TE) : TE := fun σ H Q => td σ H fun x H1 => ∃ a, x = .ref a ∧ IsD H1 a ∧ ty σ H1 fun y H2 => ∃ kvs k v, H2 a = some (.dK kvs) ∧ y = kV k ∧ valV kvs k = some v ∧ Q v (upd H2 a (.dK (dropK kvs k)))
def tDPop2 (td ty tx : TE) : TE := fun σ H Q => td σ H fun x H1 => ∃ a, x = .ref a ∧ IsD H1 a ∧ ty σ H1 fun y H2 => tx σ H2 fun z H3 => ∃ kvs k, H3 a = some (.dK kvs) ∧ y = kV k ∧
  (∀ v, valV kvs k = some v → Q v (upd H3 a (.dK (dropK kvs k)))) ∧ (valV kvs k = none → Q z H3)
section
variable {X : Cx} {o e f : Expr} {apos cpos : Pos} {td ty tx : TE}
end

/-! ### dict(d): a copy -/
section
variable {X : Cx} {pins : List (Addr × Obj)} {σ : St} {H : Hp} {s : Shared} {a : Addr} {kvs : List (Key × V)} {A : Around} {E : Value → Shared → Prop}
end


section
variable {X : Cx} {pins : List (Addr × Obj)} {σ : St} {H : Hp} {s : Shared} {a : Addr} {y : V} {u : Value} {A : Around} {E : Value → Shared → Prop}
end
end L2

namespace L2
open PySem PySem.Spec PyProof.Rows


section
variable {prog : Program} {w : World} {A : Around} {E : Value → Shared → Prop}


end

section
variable {X : Cx}
end
end L2

namespace L2
open PySem PySem.Spec PyProof.Rows


section
variable {X : Cx} {pins : List (Addr × Obj)} {σ : St} {H : Hp} {s : Shared} {h' : Heap}
/-- several records of ours have turned -/
theorem Inv.turnedL {t' : Nat} {ch : List Addr} (I : Inv X pins σ H s) (k : ∀ b o, b ∉ ch → s.heap.get? b = some o → h'.get? b = some o) (hf : ∀ b ∈ ch, FpOk X pins H b) : Inv X pins σ H { s with heap := h', toks := t' } := by
  have nit : ∀ b u, H b = some u → b ∉ ch := fun b u e z => by
    have q := (hf b z).1
    rw [q] at e; cases e
  refine I.step (g' := s.gens) (d' := s.drawn) (ch := ch) (fun b hb => ⟨(hf b hb).2.2.2.1, (hf b hb).2.1, (hf b hb).2.2.2.2.1, (hf b hb).2.2.2.2.2⟩) (fun b o _ _ hc e _ => k b o hc e) (fun b o _ _ hc e _ => ⟨o.slots, k b o hc e⟩)
    (fun _ _ _ _ n => n) (fun b o hc e => ⟨o, k b o hc e⟩) (fun _ _ e => e) (fun _ _ _ e => e) (fun b ps e => ⟨#[], by rw [e]; simp⟩) (fun m hm => ?_) (fun b u e => ?_) I.bare
  · obtain ⟨o, es, ep, ho, r⟩ := hm
    exact ⟨o, es, ep, k _ o (fun z => (hf _ z).2.1 rfl) ho, r⟩
  · refine (I.hok b u e).stay (fun c v hc q => k c v ?_ q) (fun _ q => q) fun _ _ q => q
    rcases hc with z | z
    · rw [z]; exact nit b u e
    · exact nit c _ z
/-- .. and one new object is laid -/
theorem Inv.turnedNew {t' : Nat} {ch : List Addr} {T : Addr} {ob : HO} (I : Inv X pins σ H s) (k : ∀ b o, b ∉ ch → s.heap.get? b = some o → h'.get? b = some o) (hf : ∀ b ∈ ch, FpOk X pins H b) (hT : s.heap.objs.size ≤ T)
    (new : ObjOk X.prog X.w (upd H T ob) h' T ob) : Inv X pins σ (upd H T ob) { s with heap := h', toks := t' } := by
  have hn : H T = none := I.hok.fresh hT
  have nit : ∀ b u, H b = some u → b ∉ ch := fun b u e z => by
    have q := (hf b z).1
    rw [q] at e; cases e
  refine I.step (g' := s.gens) (d' := s.drawn) (ch := ch) (fun b hb => ⟨(hf b hb).2.2.2.1, (hf b hb).2.1, (hf b hb).2.2.2.2.1, (hf b hb).2.2.2.2.2⟩) (fun b o _ _ hc e _ => k b o hc e) (fun b o _ _ hc e _ => ⟨o.slots, k b o hc e⟩)
    (fun b o _ e n => ?_) (fun b o hc e => ⟨o, k b o hc e⟩) (fun b xs e => ?_) (fun b o u e => ?_) (fun b ps e => ⟨#[], ?_⟩) (fun m hm => ?_) (fun b u e => ?_) I.bare
  · rw [upd_ne (Nat.ne_of_lt (Nat.lt_of_lt_of_le (Heap.lt_size e) hT))]; exact n
  · rw [upd_ne (ne_of_none e hn)]; exact e
  · rw [upd_ne (ne_of_none e hn)]; exact e
  · rw [upd_ne (ne_of_none e hn), e]; simp
  · obtain ⟨o, es, ep, ho, r⟩ := hm
    exact ⟨o, es, ep, k _ o (fun z => (hf _ z).2.1 rfl) ho, r⟩
  · by_cases hb : b = T
    · subst hb
      rw [upd_same] at e
      cases e
      exact new
    · rw [upd_ne hb] at e
      refine (I.hok b u e).stay (fun c v hc q => k c v ?_ q) (fun c q => by rw [upd_ne (ne_of_none q hn)]; exact q) fun c xs q => by rw [upd_ne (ne_of_none q hn)]; exact q
      rcases hc with z | z
      · rw [z]; exact nit b u e
      · exact nit c _ z

/-! ### locking a thing while a statement runs -/
end
/-- the statement runs while the thing at d is locked (read, not written); d and what stands there are the reading's choice -/
def tLock (t : TS) : TS := fun D σ H => ∃ d u, H d = some u ∧ Mut (some u) ∧ ∀ od, t ⟨fun σ' H' => H' d = some (.frz od u) ∧ D.nx σ' (upd H' d u), fun v H' => H' d = some (.frz od u) ∧ D.rt v (upd H' d u), fun σ' H' => H' d = some (.frz od u) ∧ D.bk σ' (upd H' d u), fun σ' H' => H' d = some (.frz od u) ∧ D.ct σ' (upd H' d u)⟩ σ (upd H d (.frz od u))
def tLockE (t : TE) : TE := fun σ H Q => ∃ d u, H d = some u ∧ Mut (some u) ∧ ∀ od, t σ (upd H d (.frz od u)) fun v H' => H' d = some (.frz od u) ∧ Q v (upd H' d u)
section
variable {X : Cx}

/-! ### one iterator just laid -/
end

/-! ### range with a step -/
/-- lo, lo + c, .. (n of them) -/
def Itc (lo c : Int) (n : Nat) : It := ⟨fun i _ => i < n, fun i H x H' => H' = H ∧ x = .int (lo + (i : Nat) * c), fun i _ => n ≤ i⟩
/-- range(i, j, c): small bounds, n items -/
def RgC (i j c : Int) (n : Nat) : Prop := c ≠ 0 ∧ c.natAbs < 1073741824 ∧ Builtin.Range.small i j c = true ∧ Builtin.Range.rangeSize i j c = n
def iRng3 (ta : TA) : TI := fun σ H R => ta σ H fun vs H1 => ∃ (i j c : Int) (n : Nat), vs = [.int i, .int j, .int c] ∧ RgC i j c n ∧ R (Itc i c n) H1
section
variable {X : Cx} {tg : Expr}
end

/-! ### reversed(list) -/
/-- the list at a (n items at the start, which the loop leaves there), from its end -/
def Itv (K : PySem.W.Frag) (a : Addr) (n : Nat) : It :=
  ⟨fun i H => i < n ∧ ∃ (xs : List V) (x : V), SqL K H a xs ∧ xs[n - 1 - i]? = some x, fun i H x H' => H' = H ∧ ∀ xs, SqL K H a xs → xs[n - 1 - i]? = some x, fun i _ => n ≤ i⟩
def iRev (K : PySem.W.Frag) (ta : TA) : TI := fun σ H R => ta σ H fun vs H1 => ∃ (a : Addr) (xs : List V), vs = [.ref a] ∧ SqL K H1 a xs ∧ R (Itv K a xs.length) H1
section
variable {X : Cx} {tg : Expr}
end

/-! ### a str -/
def Its (x : Str) : It := ⟨fun i _ => i < x.cps.size, fun i H v H' => H' = H ∧ ∃ c, x.cps[i]? = some c ∧ v = .str ⟨#[c]⟩, fun i _ => x.cps.size ≤ i⟩
def iStr (te : TE) : TI := fun σ H R => te σ H fun v H1 => ∃ x, v = .str x ∧ R (Its x) H1

/-! ### a dict's keys: any dict's entries -/
section
variable {prog : Program} {w : World} {A : Around} {E : Value → Shared → Prop} {s : Shared}
end

/-! ### a locked dict -/
section
variable {X : Cx} {pins : List (Addr × Obj)} {σ : St} {H : Hp} {s : Shared} {d : Addr} {o : Obj}
end

/-- the keys of the locked dict at d, in their order -/
def Itk (d : Addr) (o : Obj) (kvs : List (Key × V)) : It :=
  ⟨fun i H => H d = some (.frz o (.dK kvs)) ∧ i < kvs.length, fun i H x H' => H' = H ∧ ∃ k v, kvs[i]? = some (k, v) ∧ x = kV k, fun i H => H d = some (.frz o (.dK kvs)) ∧ kvs.length ≤ i⟩
/-- .. of tuple keys: the key's own tuple -/
def Itkt (d : Addr) (o : Obj) (kvs : List (List Key × V)) : It :=
  ⟨fun i H => H d = some (.frz o (.dT kvs)) ∧ i < kvs.length, fun i H x H' => H' = H ∧ ∃ (k : List Key) (v : V) (q : Addr), kvs[i]? = some (k, v) ∧ x = .ref q ∧ H q = some (.tup (k.map kV)), fun i H => H d = some (.frz o (.dT kvs)) ∧ kvs.length ≤ i⟩
/-- the values -/
def Itd (d : Addr) (o : Obj) (kvs : List (Key × V)) : It :=
  ⟨fun i H => H d = some (.frz o (.dK kvs)) ∧ i < kvs.length, fun i H x H' => H' = H ∧ ∃ k, kvs[i]? = some (k, x), fun i H => H d = some (.frz o (.dK kvs)) ∧ kvs.length ≤ i⟩
/-- the pairs, each a new tuple -/
def Iti (d : Addr) (o : Obj) (kvs : List (Key × V)) : It :=
  ⟨fun i H => H d = some (.frz o (.dK kvs)) ∧ i < kvs.length, fun i H x H' => ∃ T k v, kvs[i]? = some (k, v) ∧ x = .ref T ∧ H T = none ∧ H' = upd H T (.tup [kV k, v]), fun i H => H d = some (.frz o (.dK kvs)) ∧ kvs.length ≤ i⟩
section
variable {P : Program} {w : World} {K : PySem.W.Frag} {tg : Expr} {d : Addr} {o : Obj} {es : Array DictEntry} {ep : Nat}
end

/-! ### for k in d, d.keys(), d.values(), d.items() -/
/-- the dict is locked (tLock, or by the caller) -/
def iKeys (td : TE) : TI := fun σ H R => td σ H fun x H1 => ∃ d o, x = .ref d ∧ ((∃ kvs, H1 d = some (.frz o (.dK kvs)) ∧ R (Itk d o kvs) H1) ∨ ∃ kvs, H1 d = some (.frz o (.dT kvs)) ∧ R (Itkt d o kvs) H1)
def iVals (td : TE) : TI := fun σ H R => td σ H fun x H1 => ∃ d o kvs, x = .ref d ∧ H1 d = some (.frz o (.dK kvs)) ∧ R (Itd d o kvs) H1
def iItems (td : TE) : TI := fun σ H R => td σ H fun x H1 => ∃ d o kvs, x = .ref d ∧ H1 d = some (.frz o (.dK kvs)) ∧ R (Iti d o kvs) H1
def iKeysM (td : TE) : TI := fun σ H R => td σ H fun x H1 => ∃ d o kvs, x = .ref d ∧ H1 d = some (.frz o (.dK kvs)) ∧ R (Itk d o kvs) H1
section
variable {X : Cx} {tg e : Expr} {td : TE} {apos cpos : Pos}
end

/-! ### enumerate(list) -/
/-- the list at a as it stands at each turn, each item in a new pair -/
def Ite (K : PySem.W.Frag) (a : Addr) : It :=
  ⟨fun i H => ∃ (xs : List V) (x : V), SqL K H a xs ∧ xs[i]? = some x, fun i H v H' => ∃ T x, v = .ref T ∧ H T = none ∧ H' = upd H T (.tup [.int (i : Nat), x]) ∧ ∀ xs, SqL K H a xs → xs[i]? = some x, fun i H => ∃ xs : List V, SqL K H a xs ∧ xs.length ≤ i⟩
theorem turn_enum {P : Program} {w : World} {K : PySem.W.Frag} {elts : List Expr} {kk : Nat} {tpos : Pos} (a e it : Addr) :
    Turn P w K (.Tuple elts kk tpos) (Ite K a) [e, it] e (fun i h => (∃ old, IsEnum h e it ((i : Nat) : Int) old) ∧ h.IsListIter it a i ∧ e ≠ it) where
  mem := by simp
  obj := fun i h st b hb => by
    obtain ⟨⟨old, he⟩, ⟨o, ho, hc, hd⟩, _⟩ := st
    have e' : b = e ∨ b = it := by simpa using hb
    rcases e' with z | z
    · rw [z]; exact ⟨_, he, fun v q => nomatch q⟩
    · rw [z]; exact ⟨o, ho, fun v q => by rw [hd] at q; cases q⟩
  keep := fun i h h' st k => let ⟨⟨old, he⟩, hi, hne⟩ := st; ⟨⟨old, k e (by simp) _ he⟩, hi.at fun o q => k it (by simp) o q, hne⟩
  item := by
    intro X hP hw hK hc i pins s σ H E I hf st hg
    subst hP hw hK
    obtain ⟨⟨old, he⟩, hit, hne⟩ := st
    obtain ⟨xs, x, hq, hx⟩ := hg
    obtain ⟨its, rv, p, hz⟩ := I.list hq
    obtain ⟨u, hu, ru⟩ := rv.get hx
    have hel : e < s.heap.objs.size := Heap.lt_size he
    have hil : it < s.heap.objs.size := by obtain ⟨_, q, _⟩ := hit; exact Heap.lt_size q
    refine wpAny_pyNext_enum_item he hit p.isList (x := u) (by simpa using hu) hne fun h' ho hit' hT hsz hk => ?_
    refine ⟨_, rfl, wpAny_letOwnedTupleGo_enum (s := { s with heap := h', toks := s.toks + 1 }) ho fun h'' he' sb => ?_⟩
    have hT2 : h''.get? s.heap.objs.size = some { cls := .type "tuple", data := .seq #[.int i s.toks, u] } := (sb.2 _ (Nat.ne_of_gt hel)).trans hT
    have new : ObjOk X.prog X.w (upd H s.heap.objs.size (.tup [.int (i : Nat), x])) h'' s.heap.objs.size (.tup [.int (i : Nat), x]) :=
      ⟨by show 2 ≤ sizeLine; decide, [.int i s.toks, u], .cons ⟨_, rfl⟩ (.cons ru .nil), ⟨_, hT2, rfl, _, rfl⟩⟩
    have I1 : Inv X pins σ (upd H s.heap.objs.size (.tup [.int (i : Nat), x])) { s with heap := h'', toks := s.toks + 1 } :=
      I.turnedNew (ch := [e, it]) (fun b ob hb q => (sb.2 b (fun z => hb (by simp [z]))).trans (hk b ob (fun z => hb (by simp [z])) (fun z => hb (by simp [z])) q)) hf (Nat.le_refl _) new
    refine ⟨.ref s.heap.objs.size, _, I1, rfl, ⟨_, x, rfl, I.hok.fresh (Nat.le_refl _), rfl, fun ys hy => by rw [I.list_inj hy hq]; exact hx⟩, ⟨⟨u, ?_⟩, hit'.at fun o q => (sb.2 it (Ne.symm hne)).trans q, hne⟩, fun b hb => ?_⟩
    · have e1 : ((i + 1 : Nat) : Int) = (i : Int) + 1 := by omega
      rw [e1]; exact he'
    · have hb' : b < s.heap.objs.size := by
        have e' : b = e ∨ b = it := by simpa using hb
        rcases e' with z | z
        · rw [z]; exact hel
        · rw [z]; exact hil
      rw [upd_ne (Nat.ne_of_lt hb')]
      exact (hf b hb).1
  done := by
    intro X hP hw hK hc i pins s σ H E I hf st hg
    subst hP hw hK
    obtain ⟨⟨old, he⟩, hit, hne⟩ := st
    obtain ⟨xs, hq, hx⟩ := hg
    obtain ⟨its, rv, p, hz⟩ := I.list hq
    obtain ⟨f0, f1, f2, f3, f4, f5⟩ := hf it (by simp)
    have hl := rv.length
    exact wpAny_pyNext_enum_end (I.ok.hd hc) he hit p.isList (by simp; omega) fun h' eb => ⟨rfl, I.turned (t' := s.toks) (fun b o hb q => eb b o hb q) f0 f1 f3 f4 f5⟩
  self := fun A i s Q E st h => let ⟨⟨_, he⟩, _⟩ := st; wpAny_pyIter_enum he h
def iEnum (K : PySem.W.Frag) (ta : TA) : TI := fun σ H R => ta σ H fun vs H1 => ∃ a xs, vs = [.ref a] ∧ SqL K H1 a xs ∧ R (Ite K a) H1
theorem pi_enum {X : Cx} {e : Expr} {ta : TA} {p pos tpos : Pos} {elts : List Expr} {kk : Nat} (hg : Gl X "enumerate") (hm : X.mg "enumerate" = none) (ha : PA X [e] ta) (hs : starEach [e] X.env = [(false, eval e X.env)] := by rfl) :
    PI X (.Tuple elts kk tpos) (.Call (.Name "enumerate" p) [e] [] pos) (iEnum X.K ta) := by
  intro pins s σ H R I h
  refine Call_ (ld_blt I hg hm boot_enumerate (PyProof.Rows.callWith_type1 (thn (ha pos pins s σ H _ I h) fun us s1 ⟨vs, H1, I1, r1, q1⟩ => ?_) hs rfl))
  obtain ⟨a, xs, ex, hq, q⟩ := q1
  subst ex
  cases r1 with
  | cons r rr =>
    cases rr
    cases r
    obtain ⟨its, rv, p', hz⟩ := I1.list hq
    refine call_enumerate_list p'.isList fun h' he hit hsz hk => wpAny_pyIter_enum he ?_
    have I2 : Inv X pins σ H1 { s1 with heap := h' } := I1.kept (t' := s1.toks) hk
    refine ⟨s1.heap.objs.size + 1, [s1.heap.objs.size + 1, s1.heap.objs.size], _, _, H1, rfl, I2, turn_enum a (s1.heap.objs.size + 1) s1.heap.objs.size, ⟨⟨.none, he⟩, hit, Nat.succ_ne_self _⟩, fun b hb => ?_, q⟩
    have e' : b = s1.heap.objs.size + 1 ∨ b = s1.heap.objs.size := by simpa using hb
    have hle : s1.heap.objs.size ≤ b := by
      rcases e' with z | z
      · rw [z]; exact Nat.le_add_right _ _
      · rw [z]; exact Nat.le_refl _
    exact I1.fpOk hle (I1.hok.fresh hle)
/-! ### zip(list, list) -/
theorem boot_zip5 : bootBuiltins "zip" = some (.type "zip") := by decide +kernel
/-- the lists at a and b as they stand at each turn, the items in new pairs -/
def Itz (K : PySem.W.Frag) (a b : Addr) : It :=
  ⟨fun i H => ∃ (xs ys : List V) (x y : V), SqL K H a xs ∧ SqL K H b ys ∧ xs[i]? = some x ∧ ys[i]? = some y,
    fun i H v H' => ∃ T x y, v = .ref T ∧ H T = none ∧ H' = upd H T (.tup [x, y]) ∧ (∀ xs, SqL K H a xs → xs[i]? = some x) ∧ ∀ ys, SqL K H b ys → ys[i]? = some y,
    fun i H => ∃ xs ys : List V, SqL K H a xs ∧ SqL K H b ys ∧ (xs.length ≤ i ∨ ys.length ≤ i)⟩
theorem turn_zip {P : Program} {w : World} {K : PySem.W.Frag} {elts : List Expr} {kk : Nat} {tpos : Pos} {a b z TI TO i1 i2 : Addr} (D : ZipApart z TI TO i1 i2 a b) :
    Turn P w K (.Tuple elts kk tpos) (Itz K a b) [z, TI, TO, i1, i2] z (fun i h => IsZip h z TI TO .none ∧ IsPair h TI (.ref i1) (.ref i2) ∧ (∃ x y, IsPair h TO x y) ∧ h.IsListIter i1 a i ∧ h.IsListIter i2 b i) where
  mem := by simp
  obj := fun i h st c hc => by
    obtain ⟨hz, hTI, ⟨x, y, hTO⟩, ⟨o1, e1, _, d1⟩, ⟨o2, e2, _, d2⟩⟩ := st
    have e' : c = z ∨ c = TI ∨ c = TO ∨ c = i1 ∨ c = i2 := by simpa using hc
    rcases e' with q | q | q | q | q
    · rw [q]; exact ⟨_, hz, fun v q => nomatch q⟩
    · rw [q]; exact ⟨_, hTI, fun v q => nomatch q⟩
    · rw [q]; exact ⟨_, hTO, fun v q => nomatch q⟩
    · rw [q]; exact ⟨o1, e1, fun v q => by rw [d1] at q; cases q⟩
    · rw [q]; exact ⟨o2, e2, fun v q => by rw [d2] at q; cases q⟩
  keep := fun i h h' st k => by
    obtain ⟨hz, hTI, ⟨x, y, hTO⟩, h1, h2⟩ := st
    exact ⟨k z (by simp) _ hz, k TI (by simp) _ hTI, ⟨x, y, k TO (by simp) _ hTO⟩, h1.at fun o q => k i1 (by simp) o q, h2.at fun o q => k i2 (by simp) o q⟩
  item := by
    intro X hP hw hK hc i pins s σ H E I hf st hg
    subst hP hw hK
    obtain ⟨hz, hTI, ⟨x0, y0, hTO⟩, h1, h2⟩ := st
    obtain ⟨xs, ys, x, y, hqx, hqy, hx, hy⟩ := hg
    obtain ⟨its, rv, p, _⟩ := I.list hqx
    obtain ⟨its2, rv2, p2, _⟩ := I.list hqy
    obtain ⟨u, hu, ru⟩ := rv.get hx
    obtain ⟨u2, hu2, ru2⟩ := rv2.get hy
    have hzl : z < s.heap.objs.size := Heap.lt_size hz
    refine wpAny_pyNext_zip_item D hz hTI hTO h1 h2 p.isList p2.isList (x := u) (y := u2) (by simpa using hu) (by simpa using hu2) fun h' z' TO' h1' h2' hT hsz hk => ?_
    refine ⟨_, rfl, wpAny_letOwnedTupleGo_zip (s := { s with heap := h' }) z' fun h'' z'' sb => ?_⟩
    have hT2 : h''.get? s.heap.objs.size = some { cls := .type "tuple", data := .seq #[u, u2] } := (sb.2 _ (Nat.ne_of_gt hzl)).trans hT
    have new : ObjOk X.prog X.w (upd H s.heap.objs.size (.tup [x, y])) h'' s.heap.objs.size (.tup [x, y]) :=
      ⟨by show 2 ≤ sizeLine; decide, [u, u2], .cons ru (.cons ru2 .nil), ⟨_, hT2, rfl, _, rfl⟩⟩
    have I1 : Inv X pins σ (upd H s.heap.objs.size (.tup [x, y])) { s with heap := h'' } :=
      I.turnedNew (t' := s.toks) (ch := [z, TI, TO, i1, i2]) (fun c o hb q => (sb.2 c (fun q' => hb (by simp [q']))).trans (hk c o (fun q' => hb (by simp [q'])) (fun q' => hb (by simp [q'])) (fun q' => hb (by simp [q'])) (fun q' => hb (by simp [q'])) q)) hf (Nat.le_refl _) new
    refine ⟨.ref s.heap.objs.size, _, I1, rfl, ⟨_, x, y, rfl, I.hok.fresh (Nat.le_refl _), rfl, fun l hl => by rw [I.list_inj hl hqx]; exact hx, fun l hl => by rw [I.list_inj hl hqy]; exact hy⟩, ⟨z'', ?_, ⟨u, u2, ?_⟩, ?_, ?_⟩, fun c hcm => ?_⟩
    · exact (sb.2 _ D.TIz).trans (hk _ _ D.TIz D.TITO D.TIi1 D.TIi2 hTI)
    · exact (sb.2 _ D.TOz).trans TO'
    · exact h1'.at fun o q => (sb.2 _ D.i1z).trans q
    · exact h2'.at fun o q => (sb.2 _ D.i2z).trans q
    · have hlt : c < s.heap.objs.size := by
        have e' : c = z ∨ c = TI ∨ c = TO ∨ c = i1 ∨ c = i2 := by simpa using hcm
        rcases e' with q | q | q | q | q
        · rw [q]; exact hzl
        · rw [q]; exact Heap.lt_size hTI
        · rw [q]; exact Heap.lt_size hTO
        · rw [q]; obtain ⟨_, e1, _⟩ := h1; exact Heap.lt_size e1
        · rw [q]; obtain ⟨_, e2, _⟩ := h2; exact Heap.lt_size e2
      rw [upd_ne (Nat.ne_of_lt hlt)]
      exact (hf c hcm).1
  done := by
    intro X hP hw hK hc i pins s σ H E I hf st hg
    subst hP hw hK
    obtain ⟨hz, hTI, ⟨x0, y0, hTO⟩, h1, h2⟩ := st
    obtain ⟨xs, ys, hqx, hqy, hend⟩ := hg
    obtain ⟨its, rv, p, _⟩ := I.list hqx
    obtain ⟨its2, rv2, p2, _⟩ := I.list hqy
    have l1 := rv.length
    have l2 := rv2.length
    have he : its.toArray[i]? = none ∨ its2.toArray[i]? = none := by
      rcases hend with q | q
      · exact .inl (by simp; omega)
      · exact .inr (by simp; omega)
    exact wpAny_pyNext_zip_end (I.ok.hd hc) D hz hTI hTO h1 h2 p.isList p2.isList he fun h' hk => ⟨rfl, I.turnedL (t' := s.toks) (ch := [z, TI, TO, i1, i2]) (fun c o hb q =>
      hk c o (fun q' => hb (by simp [q'])) (fun q' => hb (by simp [q'])) (fun q' => hb (by simp [q'])) (fun q' => hb (by simp [q'])) q) hf⟩
  self := fun A i s Q E st h => wpAny_pyIter_zip st.1 h
def iZip (K : PySem.W.Frag) (ta : TA) : TI := fun σ H R => ta σ H fun vs H1 => ∃ a b xs ys, vs = [.ref a, .ref b] ∧ SqL K H1 a xs ∧ SqL K H1 b ys ∧ R (Itz K a b) H1
theorem pi_zip {X : Cx} {e e2 : Expr} {ta : TA} {p pos tpos : Pos} {elts : List Expr} {kk : Nat} (hg : Gl X "zip") (hm : X.mg "zip" = none) (ha : PA X [e, e2] ta)
    (hs : starEach [e, e2] X.env = (false, eval e X.env) :: starEach [e2] X.env := by rfl) (hpl : (backTo pos (starEach [e2] X.env)).any (·.1) = false := by rfl) :
    PI X (.Tuple elts kk tpos) (.Call (.Name "zip" p) [e, e2] [] pos) (iZip X.K ta) := by
  intro pins s σ H R I h
  refine Call_ (ld_blt I hg hm boot_zip5 (PyProof.Rows.callWith_type1 (thn (ha pos pins s σ H _ I h) fun us s1 ⟨vs, H1, I1, r1, q1⟩ => ?_) hs hpl))
  obtain ⟨a, b, xs, ys, ex, hqx, hqy, q⟩ := q1
  subst ex
  cases r1 with
  | cons r rr =>
    cases rr with
    | cons r' rr =>
      cases rr
      cases r
      cases r'
      obtain ⟨its, rv, p1, _⟩ := I1.list hqx
      obtain ⟨its2, rv2, p2, _⟩ := I1.list hqy
      have la : a < s1.heap.objs.size := p1.lt
      have lb : b < s1.heap.objs.size := p2.lt
      refine call_zip_2 p1.isList p2.isList fun h' hz hTI hTO h1 h2 hsz hk => wpAny_pyIter_zip hz ?_
      have I2 : Inv X pins σ H1 { s1 with heap := h' } := I1.kept (t' := s1.toks) hk
      refine ⟨s1.heap.objs.size + 4, [s1.heap.objs.size + 4, s1.heap.objs.size + 2, s1.heap.objs.size + 3, s1.heap.objs.size, s1.heap.objs.size + 1], _, _, H1, rfl, I2, turn_zip (PySem.W.ktu_apart s1.heap.objs.size a b la lb), ⟨hz, hTI, ⟨_, _, hTO⟩, h1, h2⟩, fun c hcm => ?_, q⟩
      have e' : c = s1.heap.objs.size + 4 ∨ c = s1.heap.objs.size + 2 ∨ c = s1.heap.objs.size + 3 ∨ c = s1.heap.objs.size ∨ c = s1.heap.objs.size + 1 := by simpa using hcm
      have hle : s1.heap.objs.size ≤ c := by
        rcases e' with z | z | z | z | z
        · rw [z]; exact Nat.le_add_right _ _
        · rw [z]; exact Nat.le_add_right _ _
        · rw [z]; exact Nat.le_add_right _ _
        · rw [z]; exact Nat.le_refl _
        · rw [z]; exact Nat.le_add_right _ _
      exact I1.fpOk hle (I1.hok.fresh hle)
end L2

section 
namespace Bits
open PySem PyProof.Rows








end Bits
end 

section 
namespace TL
open PySem PySem.Builtin PySem.Builtin.Str PySem.StrLaws

abbrev tl (x : Str) : List Nat := x.cps.toList

/-! ### the list functions -/
/-- S stands at the head of l -/
def pre (S l : List Nat) : Bool := l.take S.length == S
/-- l cut at each S from the left; k signs are still to be passed over -/
def spl (S : List Nat) : Nat → List Nat → List Nat → List (List Nat)
  | _, acc, [] => [acc]
  | 0, acc, c :: r => if pre S (c :: r) = true then acc :: spl S (S.length - 1) [] r else spl S 0 (acc ++ [c]) r
  | k + 1, acc, _ :: r => spl S k acc r
/-- what stands before the first S, and behind it -/
def par (S : List Nat) : List Nat → List Nat → Option (List Nat × List Nat)
  | _, [] => none
  | acc, c :: r => if pre S (c :: r) = true then some (acc, (c :: r).drop S.length) else par S (acc ++ [c]) r




/-! ### the model's split and partition are these -/




/-! ### computing spl and par -/

/-- joined lists -/
def joinL (S : List Nat) : List (List Nat) → List Nat
  | [] => []
  | [p] => p
  | p :: q :: r => p ++ (S ++ joinL S (q :: r))

/-! ### digits -/
/-- the signs of a number -/
def numL (n : Nat) : List Nat := (Nat.toDigits 10 n).map Char.toNat

/-! ### words: x.split() -/
def wstep (st : List (List Nat) × List Nat) (c : Nat) : List (List Nat) × List Nat :=
  if Unicode.isSpace c = true then (if st.2 = [] then st else (st.1 ++ [st.2], [])) else (st.1, st.2 ++ [c])
def wfin (st : List (List Nat) × List Nat) : List (List Nat) := if st.2 = [] then st.1 else st.1 ++ [st.2]
end TL
end 

namespace L2
open PySem PySem.Spec PyProof.Rows



/-- a new list of texts, tracked -/
def rNewStrs (ys : List Str) : Hp → VK → Prop := fun H Q => ∀ p, H p = none → Q (.ref p) (upd H p (.lst (ys.map V.str)))

section
variable {X : Cx} {pins : List (Addr × Obj)} {σ : St} {H : Hp} {s : Shared} {Q : VK}
end

section
variable {X : Cx}





/-! ### of a text alone -/

/-! ### of a text and a text -/

end

section
variable {X : Cx} {o e : Expr} {to te : TE}
def tM0 (r : V → List V → Hp → VK → Prop) (to : TE) : TE := fun σ H Q => to σ H fun x H1 => (∃ a, x = .str a) ∧ r x [] H1 Q
def tM1 (r : V → List V → Hp → VK → Prop) (to te : TE) : TE := fun σ H Q => to σ H fun x H1 => (∃ a, x = .str a) ∧ te σ H1 fun y H2 => r x [y] H2 Q

end
end L2

namespace L2
open PySem PySem.Spec PyProof.Rows

section
variable {X : Cx}
end

/-! ### slices of a text -/

/-- a part, clipped, as the text's slice reckons it -/
def clipS (n d : Nat) : Option Int → Int
  | none => (d : Int)
  | some i => max 0 (min (if i < 0 then i + (n : Int) else i) (n : Int))

/-- z[lo:hi] -/
def cutS (z : Str) (lo hi : Option Int) : Str :=
  ⟨((z.cps.toList.drop (HT.sIx z.length 0 lo)).take (HT.sIx z.length z.length hi - HT.sIx z.length 0 lo)).toArray⟩
def rSlS : V → Option Int → Option Int → Hp → VK → Prop := fun x lo hi H Q => ∃ z, x = .str z ∧ z.length ≤ sizeLine ∧ Q (.str (cutS z lo hi)) H
end L2

namespace Att
open PySem PySem.W PySem.Calls PyProof.Rows

/-! ### the script -/



/-! ### the attachment: holds_open's last premise (the goal 'hc' behind k_head) from a wpAny of the law's body -/



/-! ### rules over ANY heap (no ledger) from facts about the written part K: the library's own take a ledger (News) for what they write -/
section
variable {prog : Program} {w : World} {A : Around} {E : Value → Shared → Prop} {s : Shared} {K : Frag}





/-! the whole heap as the ledger: makes every rule that writes through a ledger a rule over any heap -/
def noObjs (h : Heap) : Heap := { h with objs := #[] }
def ledger (h : Heap) (L d : Addr) : List (Addr × Obj) := (List.range h.objs.size).filterMap fun a => if a = L ∨ a = d then none else (h.get? a).map fun o => (a, o)

end
end Att

namespace L2
open PySem PySem.Spec PyProof.Rows


/-- nothing is tracked but the script, known to the object (or it is an object of the module) -/
def Only (H : Hp) : Prop := ∀ b, H b = none ∨ ∃ o xs, H b = some (.frz o (.lst xs))

end L2

namespace L2
open PySem PySem.Spec PyProof.Rows

abbrev KOf {K : PySem.W.Frag} {h : Heap} (_ : K.In h) : PySem.W.Frag := K

end L2

/- THE LAST THEOREM (shape; LID, My.* are yours):
   My.Adr: a structure of the addresses that your layer names (classes, functions); My.Txt K t: a structure (Prop) of the equations over K;
   My.txt_mk : {K} {implicit addresses ..} (e1 : nsIn K mainGlobals "law" = some (some (.ref f))) (e2 : K.lookup f = some ⟨oc, od, .func (fnOf "law" "law" params body scope dV kV doc pm an cdv ct), sl⟩) (e3 : codeIn K cdv "law" = true) .. : ∃ t, My.Txt K t

set_option maxRecDepth 100000 in
set_option maxHeartbeats 0 in
theorem PySem.Challenge.cw_LID_holds : PySem.Challenge.rw_LID.Holds := by
  w_on; o_law; k_head; (case hw => w_witness2)
  k_fill
  refine L2.walk_of (l := PySem.Challenge.rw_LID) (n := 63) (k := 40) (x := "script") (CX := fun w => ..) (sp := fun _ => My.sp_law) rfl (by decide) rfl ⟨rfl, by decide, by decide⟩ (fun w h Y => PySem.W.kIn_of Y) ?F ?S ?C
  case F =>
    intro w mg fa h KX G hmg
    have T : ∃ t, My.Txt (L2.KOf KX) t := by
      dsimp only [L2.KOf]                          -- K must stand as «<heap const> w.params» for k_is
      refine' My.txt_mk ?e1 ?e2 ?e3 ..
      (case e1 => PySem.W.k_is)                    -- in the order: a name -> its address -> its object -> its parts
      (case e2 => PySem.W.k_is)
      ..
    obtain ⟨t, T⟩ := T
    have e0 := hmg.symm.trans (PySem.W.mg_of KX G T.law)
    cases e0                                       -- fa is the law's own address
    exact ⟨_, fun s u => .of_eq rfl, fun base kb nb => My.law_fn T kb nb⟩     -- if «.of_eq rfl» comes too early: refine' ⟨_, ?b, fun base kb nb => My.law_fn T kb nb⟩; exact fun s u => .of_eq rfl
  case S => exact fun w H a ns hl hO hS => ..
  case C => exact ..
(the tactic k_is has no namespace: write k_is) -/

/-! SHORT WORDS over the layer: a def of the text, its body, what a loop and a test want. -/
namespace L2
open PySem PySem.Spec PyProof.Rows

/-! ### the text by places -/
/-- the j-th statement of a class's body -/
def inClass (s : Stmt) (j : Nat) : Stmt := match s with
  | .ClassDef _ _ _ body _ _ _ _ _ _ _ => body.getD j (.Pass ⟨0, 0, 0, 0⟩)
  | _ => .Pass ⟨0, 0, 0, 0⟩
def defArgs (s : Stmt) : Arguments := match s with
  | .FunctionDef _ a _ _ _ _ _ _ _ _ => a
  | _ => { posonlyargs := [], args := [], vararg := none, kwonlyargs := [], kw_defaults := [], kwarg := none, defaults := [] }
def defBody (s : Stmt) : List Stmt := match s with
  | .FunctionDef _ _ b _ _ _ _ _ _ _ => b
  | _ => []
def defScope (s : Stmt) : Scope := match s with
  | .FunctionDef _ _ _ _ _ _ sc _ _ _ => sc
  | _ => { kind := .function, names := [], isGenerator := false, isCoroutine := false }

/-! ### no exception leaves a def -/
abbrev CX0 : CXT := fun _ _ _ _ _ _ => False
abbrev E0 : XK := fun _ _ _ => False
theorem pass0 {X : Cx} : Passes CX0 X E0 := fun _ _ _ _ _ _ _ h => h.elim

/-! ### a def (or method) of the text as it stands behind the top -/
structure Fun (K : PySem.W.Frag) (x qual : Str) (st : Stmt) (f : Addr) (fd : FuncData) : Prop where
  ex : ∃ (oc : Value) (od : Option Addr) (kV doc pm : Value) (an : Option Addr) (cdv ct : Value) (osl : Array (Option Value)),
    fd = PySem.W.fnOf x qual (defArgs st) (defBody st) (defScope st) .none kV doc pm an cdv ct ∧ K.lookup f = some ⟨oc, od, .func fd, osl⟩ ∧ PySem.W.codeIn K cdv qual = true
  kp : PySem.W.keepIn K (.ref f) = true
section
variable {P : Program} {w : World} {K : PySem.W.Frag} {mg : Str → Option Value} {base : Heap}
/-- THE RULE for a def: its body as a term of rules, and the reading of that term -/
theorem Fun.ok {x qual : Str} {st : Stmt} {f : Addr} {fd : FuncData} {N ps : List Str} {k : Nat} {sp : Sp} (F : Fun K x qual st f fd) (S : FnScope N ps (defScope st)) (len : ∀ vs H Q E, sp vs H Q E → vs.length = ps.length)
    (hbody : ∀ (cdv : Value) (A : Around) (outer : List Env) (s : Shared) (H : Hp) (vs : List V) (Q : VK) (E : XK), Room k (A.deeper (envOfC qual (defScope st) s.heap.objs.size f cdv)) → sp vs H Q E →
      ∃ t, PSs (cxOf CX0 P w K mg base N qual (defScope st) f cdv A outer s H E).nox (defBody st) t ∧ t { nx := fun _ H' => Q .non H', rt := Q } (start N vs) H) : FnOk P w K mg base CX0 (k + 1) f fd ps sp := by
  obtain ⟨oc, od, kV, doc, pm, an, cdv, ct, osl, rfl, lk, hcd⟩ := F.ex
  refine fn_of lk hcd S len fun A outer s H vs Q E hr hsp => ?_
  obtain ⟨t, h, q⟩ := hbody cdv A outer s H vs Q E hr hsp
  exact ⟨t, h.nox, q⟩
/-- how its arguments bind (no defaults): h is «fun _ _ _ _ _ _ us hl => match us, hl with | [_, _], _ => rfl», one _ a parameter -/
theorem Fun.binds {x qual : Str} {st : Stmt} {f : Addr} {fd : FuncData} {ps : List Str} (F : Fun K x qual st f fd)
    (h : ∀ (kV doc pm : Value) (an : Option Addr) (cdv ct : Value) (us : List Value), us.length = ps.length → bindArgs (PySem.W.fnOf x qual (defArgs st) (defBody st) (defScope st) .none kV doc pm an cdv ct) ⟨us, []⟩ = pure (ps.zip us)) : Binds K fd ps [] := by
  obtain ⟨oc, od, kV, doc, pm, an, cdv, ct, osl, rfl, lk, hcd⟩ := F.ex
  exact .all (h kV doc pm an cdv ct)
theorem fun_mk {x qual : Str} {st : Stmt} {f : Addr} {oc : Value} {od an : Option Addr} {osl : Array (Option Value)} {kV doc pm cdv ct : Value} (l : K.lookup f = some ⟨oc, od, .func (PySem.W.fnOf x qual (defArgs st) (defBody st) (defScope st) .none kV doc pm an cdv ct), osl⟩)
    (c : PySem.W.codeIn K cdv qual = true) (k : PySem.W.keepIn K (.ref f) = true) : Fun K x qual st f (PySem.W.fnOf x qual (defArgs st) (defBody st) (defScope st) .none kV doc pm an cdv ct) := ⟨⟨oc, od, kV, doc, pm, an, cdv, ct, osl, rfl, l, c⟩, k⟩
end
theorem hu_of {A : Around} {k : Nat} (hr : Room k A) : A.units + 1 < cLine := Nat.lt_of_le_of_lt (Nat.add_le_add_left (by decide : 1 ≤ 64) _) hr.units

/-! ### expressions in short: the name that stands in the i-th slot -/
section
variable {X : Cx}
theorem pv (i : Nat) {x : Str} {pos : Pos} (hN : X.N[i]? = some x := by rfl) (hv : Vis X.env.scope x := by first | exact Or.inl rfl | exact Or.inr (Or.inl rfl) | exact Or.inr (Or.inr rfl)) (hd : (x == ("__debug__" : Str)) = false := by decide)
    (hcd : (x == ("__classdict__" : Str)) = false := by decide) : PE X (.Name x pos) (tVar i) := pe_var hN hv hd hcd
end

/-! ### tests -/
theorem iteF {A B : Prop} (h : B) : if false = true then A else B := by
  rw [if_neg Bool.false_ne_true]
  exact h
theorem iteT {A B : Prop} (h : A) : if true = true then A else B := by
  rw [if_pos rfl]
  exact h
theorem ite2 {c A B : Prop} [Decidable c] (h1 : c → A) (h2 : ¬ c → B) : if c then A else B := by
  by_cases h : c
  · rw [if_pos h]
    exact h1 h
  · rw [if_neg h]
    exact h2 h
theorem iteNS {c A B : Prop} [Decidable c] (hc : c) (h : B) : if (!decide c) = true then A else B := by
  rw [decide_eq_true hc]
  exact iteF h

/-! ### heaps -/
/-- all that was tracked is as it was -/
def Same (H H' : Hp) : Prop := ∀ b o, H b = some o → H' b = some o
theorem Same.trans {H H1 H2 : Hp} (a : Same H H1) (b : Same H1 H2) : Same H H2 := fun c o h => b c o (a c o h)
theorem Same.free {H H' : Hp} (e : Same H H') {l : Addr} (h : H' l = Option.none) : H l = Option.none := by
  cases q : H l with
  | none => rfl
  | some o =>
    rw [e l o q] at h
    cases h
theorem Same.seq {K : PySem.W.Frag} {H H' : Hp} {a : Addr} {xs : List V} (e : Same H H') (h : SqL K H a xs) : SqL K H' a xs := by
  rcases h with (h | ⟨o, h⟩) | h
  · exact .inl (.inl (e _ _ h))
  · exact .inl (.inr ⟨o, e _ _ h⟩)
  · exact .inr h

/-! ### a dict's pairs: keys that differ -/
section
variable {κ : Type} [DecidableEq κ]
end
/-! ### lists -/
/-- a new instance and its __init__ leave all that was tracked as it was -/
theorem Same.made {H H1 : Hp} {x dx C : Addr} (nx : H x = Option.none) (nd : H dx = Option.none) (k : ∀ b o, (upd (upd H dx (.own x)) x (.ins C dx [])) b = some o → b ≠ x → H1 b = some o) : Same H H1 := fun b o e =>
  k b o (by rw [upd_ne (ne_of_none e nx), upd_ne (ne_of_none e nd)]; exact e) (ne_of_none e nx)
end L2

section
set_option Elab.async false
set_option linter.all false
set_option maxRecDepth 100000
set_option maxHeartbeats 2000000
namespace L2
open PySem PySem.Spec PyProof.Rows
open PySem.W (WData Codec OpenSpec Well WellAll ReadsW ReadsAllW)
/-! ### an answer as data -/
mutual
/-- x stands for the datum d, lists and tuples all the way -/
inductive Dw (K : PySem.W.Frag) (H : Hp) : V → WData → Prop
  | non : Dw K H .non .none
  | bl (b : Bool) : Dw K H (.bl b) (.bool b)
  | int (i : Int) : Dw K H (.int i) (.int i)
  | str (x : Str) : Dw K H (.str x) (.str x)
  | byt (b : Array UInt8) : Dw K H (.byt b) (.bytes b.toList)
  | lst {a : Addr} {xs : List V} {ds : List WData} : SqL K H a xs → DwAll K H xs ds → Dw K H (.ref a) (.list ds)
  | tup {a : Addr} {xs : List V} {ds : List WData} : SqT K H a xs → DwAll K H xs ds → Dw K H (.ref a) (.tuple ds)
inductive DwAll (K : PySem.W.Frag) (H : Hp) : List V → List WData → Prop
  | nil : DwAll K H [] []
  | cons {v : V} {vs : List V} {d : WData} {ds : List WData} : Dw K H v d → DwAll K H vs ds → DwAll K H (v :: vs) (d :: ds)
end
theorem dw_ints {K : PySem.W.Frag} {H : Hp} : ∀ ns : List Int, DwAll K H (ns.map V.int) (ns.map WData.int)
  | [] => .nil
  | n :: r => .cons (.int n) (dw_ints r)
theorem ints_dw {K : PySem.W.Frag} {H : Hp} : ∀ (ns : List Int) (xs : List V), DwAll K H xs (ns.map WData.int) → xs = ns.map V.int
  | [], xs, h => by
    cases h
    rfl
  | n :: r, xs, h => by
    cases h with
    | cons h1 h2 =>
      cases h1
      rw [ints_dw r _ h2] <;> rfl
section
variable {P : Program} {w : World} {K : PySem.W.Frag} {H : Hp} {h : Heap} {R : PySem.W.WRecords} {cl : Str → Option Addr}
theorem sqL_at {a : Addr} {xs : List V} (hok : HOk P w H h) (KX : K.In h) (q : SqL K H a xs) : ∃ (its : List Value) (o : Obj) (n : Nat), Vals xs its ∧ h.get? a = some o ∧ o.cls = .type "list" ∧ o.data = .seq its.toArray n := by
  rcases q with q | ⟨o, its, n, e, hc, _, hd, _, hv⟩
  · obtain ⟨_, its, n, hv, e⟩ := (show ObjOk P w H h a (.lst xs) from q.ok hok)
    exact ⟨its, _, n, hv, e, rfl, rfl⟩
  · exact ⟨its.toList, o, n, hv, KX _ _ e, hc, by simp [hd]⟩
theorem sqT_at {a : Addr} {xs : List V} (hok : HOk P w H h) (KX : K.In h) (q : SqT K H a xs) : ∃ (its : List Value) (o : Obj) (n : Nat), Vals xs its ∧ h.get? a = some o ∧ o.cls = .type "tuple" ∧ o.data = .seq its.toArray n := by
  rcases q with q | ⟨o, its, n, e, hc, hd, _, hv⟩
  · obtain ⟨_, its, hv, o, e, hc, n, hd⟩ := (show ObjOk P w H h a (.tup xs) from q.ok hok)
    exact ⟨its, o, n, hv, e, hc, hd⟩
  · exact ⟨its.toList, o, n, hv, KX _ _ e, hc, by simp [hd]⟩
mutual
theorem Dw.reads (hok : HOk P w H h) (KX : K.In h) : ∀ (d : WData) (v : V) (u : Value), Dw K H v d → RelV v u → ∃ as, ReadsW R cl h u d as
  | .none, _, _, x, r => by
    cases x
    cases r
    exact ⟨_, ReadsW.none⟩
  | .bool b, _, _, x, r => by
    cases x
    cases r
    exact ⟨_, ReadsW.bool b⟩
  | .int i, _, _, x, r => by
    cases x
    obtain ⟨t, rfl⟩ := r
    exact ⟨_, ReadsW.int i t⟩
  | .str s, _, _, x, r => by
    cases x
    obtain ⟨t, rfl⟩ := r
    exact ⟨_, ReadsW.str s t⟩
  | .bytes b, _, _, x, r => by
    cases x
    obtain ⟨t, rfl⟩ := r
    exact ⟨_, ReadsW.bytes _ t⟩
  | .list ds, _, _, x, r => by
    cases x with
    | lst hs ha =>
      cases r
      obtain ⟨its, o, n, rv, ho, hc, hd⟩ := sqL_at hok KX hs
      obtain ⟨as, hr⟩ := Dw.readsAll hok KX ds _ its ha rv
      exact ⟨_, ReadsW.list ho hc hd hr⟩
  | .tuple ds, _, _, x, r => by
    cases x with
    | tup hs ha =>
      cases r
      obtain ⟨its, o, n, rv, ho, hc, hd⟩ := sqT_at hok KX hs
      obtain ⟨as, hr⟩ := Dw.readsAll hok KX ds _ its ha rv
      exact ⟨_, ReadsW.tuple ho hc hd hr⟩
  | .float _, _, _, x, _ => by cases x
  | .dict _, _, _, x, _ => by cases x
  | .bytearray _, _, _, x, _ => by cases x
  | .set _, _, _, x, _ => by cases x
  | .frozenset _, _, _, x, _ => by cases x
  | .obj _ _, _, _, x, _ => by cases x
theorem Dw.readsAll (hok : HOk P w H h) (KX : K.In h) : ∀ (ds : List WData) (vs : List V) (us : List Value), DwAll K H vs ds → Vals vs us → ∃ as, ReadsAllW R cl h us ds as
  | [], _, _, x, r => by
    cases x
    cases r
    exact ⟨_, ReadsAllW.nil⟩
  | d :: ds, _, _, x, r => by
    cases x with
    | cons h1 h2 =>
      cases r with
      | cons r1 r2 =>
        obtain ⟨as, q1⟩ := Dw.reads hok KX d _ _ h1 r1
        obtain ⟨bs, q2⟩ := Dw.readsAll hok KX ds _ _ h2 r2
        exact ⟨_, ReadsAllW.cons q1 q2⟩
end
end
/-! ### the arguments -/
mutual
/-- data that a codec tells -/
def plW : WData → Bool
  | .none => true
  | .bool _ => true
  | .int _ => true
  | .str _ => true
  | .bytes _ => true
  | .list xs => plWs xs
  | .tuple xs => plWs xs
  | _ => false
def plWs : List WData → Bool
  | [] => true
  | x :: r => plW x && plWs r
end
theorem plWs_map {α : Type} {f : α → WData} (h : ∀ a, plW (f a) = true) : ∀ l : List α, plWs (l.map f) = true
  | [] => rfl
  | x :: r => by
    show (plW (f x) && plWs (r.map f)) = true
    rw [h x, plWs_map h r] <;> rfl
theorem pl_enc : ∀ (c : Codec) (a : c.denote), plW (c.enc a) = true
  | .unit, _ => rfl
  | .bool, _ => rfl
  | .int _ _, _ => rfl
  | .nat _ _, _ => rfl
  | .u8, _ => rfl
  | .bytes _ _, _ => rfl
  | .text _ _ _ _, _ => rfl
  | .list _ _ c, a => plWs_map (fun x => pl_enc c x) a
  | .pair c d, a => by
    show (plW (c.enc a.1) && (plW (d.enc a.2) && true)) = true
    rw [pl_enc c a.1, pl_enc d a.2] <;> rfl
  | .triple c d e, a => by
    show (plW (c.enc a.1) && (plW (d.enc a.2.1) && (plW (e.enc a.2.2) && true))) = true
    rw [pl_enc c a.1, pl_enc d a.2.1, pl_enc e a.2.2] <;> rfl
  | .option c, none => rfl
  | .option c, some x => pl_enc c x
theorem pl_encAll : ∀ (cs : List Codec) (a : Codec.denoteAll cs), plWs (Codec.encAll cs a) = true
  | [], _ => rfl
  | c :: cs, a => by
    show (plW (c.enc a.1) && plWs (Codec.encAll cs a.2)) = true
    rw [pl_enc c a.1, pl_encAll cs a.2] <;> rfl
theorem weight_mem : ∀ {xs : List WData} {d : WData}, d ∈ xs → d.weight ≤ WData.weightAll xs
  | [], d, h => absurd h (by simp)
  | x :: r, d, h => by
    show d.weight ≤ x.weight + 1 + WData.weightAll r
    rcases List.mem_cons.mp h with e | m
    · rw [e]
      omega
    · have z := weight_mem m
      omega
def toV : Value → V
  | .none => .non
  | .bool b => .bl b
  | .int i _ => .int i
  | .str x _ => .str x
  | .bytes b _ => .byt b
  | .ref a => .ref a
  | _ => .non
/-- a value of the arguments, its objects among A -/
def OkU (A : List Addr) : Value → Prop
  | .none => True
  | .bool _ => True
  | .int _ _ => True
  | .str _ _ => True
  | .bytes _ _ => True
  | .ref a => a ∈ A
  | _ => False
theorem OkU.mono {A B : List Addr} (h : ∀ a ∈ A, a ∈ B) : ∀ {u : Value}, OkU A u → OkU B u := fun {u} x => by
  cases u with
  | ref a => exact h a x
  | none => trivial
  | bool b => trivial
  | int i t => trivial
  | str s t => trivial
  | bytes b t => trivial
  | _ => exact False.elim x
theorem relV_toV {A : List Addr} {u : Value} (x : OkU A u) : RelV (toV u) u := by
  cases u with
  | ref a => rfl
  | none => rfl
  | bool b => rfl
  | int i t => exact ⟨t, rfl⟩
  | str s t => exact ⟨t, rfl⟩
  | bytes b t => exact ⟨t, rfl⟩
  | _ => exact False.elim x
theorem vals_toV {A : List Addr} : ∀ {vs : List Value}, (∀ u ∈ vs, OkU A u) → Vals (vs.map toV) vs
  | [], _ => .nil
  | u :: r, h => .cons (relV_toV (h u (List.mem_cons_self ..))) (vals_toV fun x hx => h x (List.mem_cons_of_mem _ hx))
/-- an object of the arguments -/
def ArgOb (h : Heap) (A : List Addr) (a : Addr) : Prop := ∃ vs : List Value, vs.length ≤ sizeLine ∧ (∀ u ∈ vs, OkU A u) ∧
  (h.get? a = some { cls := .type "list", data := .seq vs.toArray } ∨ h.get? a = some { cls := .type "tuple", data := .seq vs.toArray })
theorem ArgOb.mono {h : Heap} {A B : List Addr} {a : Addr} (k : ∀ a ∈ A, a ∈ B) (x : ArgOb h A a) : ArgOb h B a := by
  obtain ⟨vs, h1, h2, h3⟩ := x
  exact ⟨vs, h1, fun u hu => (h2 u hu).mono k, h3⟩
theorem wellAll_len {P : Params} {h : Heap} : ∀ {vs : List Value} {ds : List WData}, WellAll P h vs ds → vs.length = ds.length
  | _, _, .nil => rfl
  | _, _, .cons _ b => by
    show _ + 1 = _ + 1
    rw [wellAll_len b]
theorem well_list {P : Params} {h : Heap} {v : Value} {ds : List WData} (x : Well P h v (.list ds)) : ∃ (a : Addr) (vs : List Value), v = .ref a ∧ h.get? a = some { cls := .type "list", data := .seq vs.toArray } ∧ WellAll P h vs ds := by
  cases x with
  | list ho hall => exact ⟨_, _, rfl, ho, hall⟩
theorem well_tuple {P : Params} {h : Heap} {v : Value} {ds : List WData} (x : Well P h v (.tuple ds)) : ∃ (a : Addr) (vs : List Value), v = .ref a ∧ h.get? a = some { cls := .type "tuple", data := .seq vs.toArray } ∧ WellAll P h vs ds := by
  cases x with
  | tuple ho hall => exact ⟨_, _, rfl, ho, hall⟩
theorem well_cons {P : Params} {h : Heap} {us : List Value} {d : WData} {ds : List WData} (x : WellAll P h us (d :: ds)) : ∃ (v : Value) (vs : List Value), us = v :: vs ∧ Well P h v d ∧ WellAll P h vs ds := by
  cases x with
  | cons a b => exact ⟨_, _, rfl, a, b⟩
theorem line_of {n : Nat} (h : n ≤ 1048576) : n ≤ sizeLine := Nat.le_trans h (by decide)
section
variable {P : Params} {h : Heap}
mutual
theorem area_one : ∀ (d : WData) (v : Value), Well P h v d → plW d = true → d.weight ≤ 1048576 → ∃ A : List Addr, OkU A v ∧ ∀ a ∈ A, ArgOb h A a
  | .none, _, x, _, _ => by
    cases x
    exact ⟨[], trivial, fun a m => absurd m (by simp)⟩
  | .bool b, _, x, _, _ => by
    cases x
    exact ⟨[], trivial, fun a m => absurd m (by simp)⟩
  | .int i, _, x, _, _ => by
    cases x
    exact ⟨[], trivial, fun a m => absurd m (by simp)⟩
  | .str s, _, x, _, _ => by
    cases x
    exact ⟨[], trivial, fun a m => absurd m (by simp)⟩
  | .bytes b, _, x, _, _ => by
    cases x
    exact ⟨[], trivial, fun a m => absurd m (by simp)⟩
  | .list ds, _, x, p, z => by
    obtain ⟨a, vs, rfl, ho, hall⟩ := well_list x
    have z2 : WData.weightAll ds ≤ 1048576 := z
    obtain ⟨A, h1, h2⟩ := area_all ds _ hall p fun d hd => Nat.le_trans (weight_mem hd) z2
    have k : ∀ b ∈ A, b ∈ a :: A := fun b hb => List.mem_cons_of_mem _ hb
    refine ⟨a :: A, List.mem_cons_self .., fun b hb => ?_⟩
    rcases List.mem_cons.mp hb with e | m
    · rw [e]
      exact ⟨vs, line_of (by rw [wellAll_len hall]; exact Nat.le_trans (PySem.W.length_le_weightAllW ds) z2), fun u hu => (h1 u hu).mono k, .inl ho⟩
    · exact (h2 b m).mono k
  | .tuple ds, _, x, p, z => by
    obtain ⟨a, vs, rfl, ho, hall⟩ := well_tuple x
    have z2 : WData.weightAll ds ≤ 1048576 := z
    obtain ⟨A, h1, h2⟩ := area_all ds _ hall p fun d hd => Nat.le_trans (weight_mem hd) z2
    have k : ∀ b ∈ A, b ∈ a :: A := fun b hb => List.mem_cons_of_mem _ hb
    refine ⟨a :: A, List.mem_cons_self .., fun b hb => ?_⟩
    rcases List.mem_cons.mp hb with e | m
    · rw [e]
      exact ⟨vs, line_of (by rw [wellAll_len hall]; exact Nat.le_trans (PySem.W.length_le_weightAllW ds) z2), fun u hu => (h1 u hu).mono k, .inr ho⟩
    · exact (h2 b m).mono k
  | .float _, _, _, p, _ => Bool.noConfusion (show false = true from p)
  | .dict _, _, _, p, _ => Bool.noConfusion (show false = true from p)
  | .bytearray _, _, _, p, _ => Bool.noConfusion (show false = true from p)
  | .set _, _, _, p, _ => Bool.noConfusion (show false = true from p)
  | .frozenset _, _, _, p, _ => Bool.noConfusion (show false = true from p)
  | .obj _ _, _, _, p, _ => Bool.noConfusion (show false = true from p)
theorem area_all : ∀ (ds : List WData) (vs : List Value), WellAll P h vs ds → plWs ds = true → (∀ d ∈ ds, d.weight ≤ 1048576) → ∃ A : List Addr, (∀ u ∈ vs, OkU A u) ∧ ∀ a ∈ A, ArgOb h A a
  | [], _, x, _, _ => by
    cases x
    exact ⟨[], fun u m => absurd m (by simp), fun a m => absurd m (by simp)⟩
  | d :: ds, _, x, p, z => by
    obtain ⟨v, vs, rfl, x1, x2⟩ := well_cons x
    have q : plW d = true ∧ plWs ds = true := Bool.and_eq_true_iff.mp p
    obtain ⟨A, a1, a2⟩ := area_one d v x1 q.1 (z d (List.mem_cons_self ..))
    obtain ⟨B, b1, b2⟩ := area_all ds vs x2 q.2 fun e he => z e (List.mem_cons_of_mem _ he)
    have kA : ∀ b ∈ A, b ∈ A ++ B := fun b hb => List.mem_append.mpr (.inl hb)
    have kB : ∀ b ∈ B, b ∈ A ++ B := fun b hb => List.mem_append.mpr (.inr hb)
    refine ⟨A ++ B, fun u hu => ?_, fun b hb => ?_⟩
    · rcases List.mem_cons.mp hu with e | m
      · rw [e]
        exact a1.mono kA
      · exact (b1 u m).mono kB
    · rcases List.mem_append.mp hb with m | m
      · exact (a2 b m).mono kA
      · exact (b2 b m).mono kB
end
end
/-- what is tracked of an argument's object -/
def hoOf (o : Obj) : Option HO := match o.data with
  | .seq vs _ => if (o.cls == Value.type "list") = true then some (.frz o (.lst (vs.toList.map toV))) else some (.frz o (.tup (vs.toList.map toV)))
  | _ => none
def argH (K : PySem.W.Frag) (h : Heap) (A : List Addr) : Hp := fun b => if b ∈ A then (if (K.lookup b).isNone = true then (h.get? b).bind hoOf else none) else none
/-- nothing is tracked but what is known to the object -/
def OnlyF (H : Hp) : Prop := ∀ b, H b = none ∨ ∃ o u, H b = some (.frz o u)
theorem hoOf_lst (vs : List Value) : hoOf { cls := .type "list", data := .seq vs.toArray } = some (.frz { cls := .type "list", data := .seq vs.toArray } (.lst (vs.map toV))) := by
  show (if (Value.type "list" == Value.type "list") = true then some (HO.frz { cls := .type "list", data := .seq vs.toArray } (.lst (vs.toArray.toList.map toV))) else some (HO.frz { cls := .type "list", data := .seq vs.toArray } (.tup (vs.toArray.toList.map toV)))) = _
  rw [if_pos (beq_self_eq_true _)]
theorem hoOf_tup (vs : List Value) : hoOf { cls := .type "tuple", data := .seq vs.toArray } = some (.frz { cls := .type "tuple", data := .seq vs.toArray } (.tup (vs.map toV))) := by
  show (if (Value.type "tuple" == Value.type "list") = true then some (HO.frz { cls := .type "tuple", data := .seq vs.toArray } (.lst (vs.toArray.toList.map toV))) else some (HO.frz { cls := .type "tuple", data := .seq vs.toArray } (.tup (vs.toArray.toList.map toV)))) = _
  rw [if_neg (by decide)]
section
variable {P : Program} {w : World} {K : PySem.W.Frag} {h : Heap} {A : List Addr}
theorem argH_at {b : Addr} {o : Obj} (hb : b ∈ A) (hk : K.lookup b = none) (e : h.get? b = some o) : argH K h A b = hoOf o := by
  unfold argH
  rw [if_pos hb, hk, if_pos (show (none : Option Obj).isNone = true from rfl), e] <;> rfl
theorem of_argH {b : Addr} {u : HO} (q : argH K h A b = some u) : b ∈ A ∧ K.lookup b = none := by
  unfold argH at q
  by_cases hb : b ∈ A
  · rw [if_pos hb] at q
    cases hk : K.lookup b with
    | none => exact ⟨hb, rfl⟩
    | some o =>
      rw [hk, if_neg (by simp)] at q
      cases q
  · rw [if_neg hb] at q
    cases q
/-- what stands tracked -/
theorem argH_is (ar : ∀ a ∈ A, ArgOb h A a) {b : Addr} {u : HO} (q : argH K h A b = some u) : K.lookup b = none ∧ ∃ vs : List Value, vs.length ≤ sizeLine ∧ (∀ u ∈ vs, OkU A u) ∧
    ((h.get? b = some { cls := .type "list", data := .seq vs.toArray } ∧ u = .frz { cls := .type "list", data := .seq vs.toArray } (.lst (vs.map toV))) ∨
     (h.get? b = some { cls := .type "tuple", data := .seq vs.toArray } ∧ u = .frz { cls := .type "tuple", data := .seq vs.toArray } (.tup (vs.map toV)))) := by
  obtain ⟨hb, hk⟩ := of_argH q
  obtain ⟨vs, h1, h2, h3⟩ := ar b hb
  refine ⟨hk, vs, h1, h2, ?_⟩
  rcases h3 with e | e
  · rw [argH_at hb hk e, hoOf_lst] at q
    exact .inl ⟨e, (Option.some.inj q).symm⟩
  · rw [argH_at hb hk e, hoOf_tup] at q
    exact .inr ⟨e, (Option.some.inj q).symm⟩
theorem argH_only (ar : ∀ a ∈ A, ArgOb h A a) : OnlyF (argH K h A) := fun b => by
  cases q : argH K h A b with
  | none => exact .inl rfl
  | some u =>
    obtain ⟨_, vs, _, _, ⟨_, e⟩ | ⟨_, e⟩⟩ := argH_is ar q
    · exact .inr ⟨_, _, by rw [e]⟩
    · exact .inr ⟨_, _, by rw [e]⟩
theorem argH_ok (ar : ∀ a ∈ A, ArgOb h A a) : HOk P w (argH K h A) h := fun b u q => by
  obtain ⟨_, vs, h1, h2, ⟨e, rfl⟩ | ⟨e, rfl⟩⟩ := argH_is ar q
  · exact ⟨e, by rw [List.length_map]; exact h1, vs, _, vals_toV h2, e⟩
  · exact ⟨e, by rw [List.length_map]; exact h1, vs, vals_toV h2, _, e, rfl, _, rfl⟩
theorem seq_inj {c c' : Value} {vs us : List Value} (e : (some { cls := c, data := .seq vs.toArray } : Option Obj) = some { cls := c', data := .seq us.toArray }) : c = c' ∧ vs = us := by
  have e1 := Option.some.inj e
  have e2 : c = c' := congrArg Obj.cls e1
  have e3 : Data.seq vs.toArray = Data.seq us.toArray := congrArg Obj.data e1
  injection e3 with e4
  refine ⟨e2, ?_⟩
  have e5 := congrArg Array.toList e4
  simpa using e5
/-- a list argument -/
theorem argL (KX : K.In h) (ar : ∀ a ∈ A, ArgOb h A a) {a : Addr} {vs : List Value} (ha : a ∈ A) (e : h.get? a = some { cls := .type "list", data := .seq vs.toArray }) : (∀ u ∈ vs, OkU A u) ∧ SqL K (argH K h A) a (vs.map toV) := by
  obtain ⟨us, h1, h2, h3⟩ := ar a ha
  have hu : us = vs := by
    rcases h3 with q | q
    · rw [e] at q
      exact (seq_inj q).2.symm
    · rw [e] at q
      exact absurd (Value.type.inj (seq_inj q).1) (by decide)
  subst hu
  refine ⟨h2, ?_⟩
  cases hk : K.lookup a with
  | none => exact .inl (.inr ⟨_, by rw [argH_at ha hk e, hoOf_lst]⟩)
  | some o =>
    have e2 := KX a o hk
    rw [e] at e2
    obtain rfl := Option.some.inj e2
    exact .inr ⟨_, us.toArray, _, hk, rfl, rfl, rfl, by rw [List.size_toArray]; exact h1, by simpa using vals_toV h2⟩
theorem argT (KX : K.In h) (ar : ∀ a ∈ A, ArgOb h A a) {a : Addr} {vs : List Value} (ha : a ∈ A) (e : h.get? a = some { cls := .type "tuple", data := .seq vs.toArray }) : (∀ u ∈ vs, OkU A u) ∧ SqT K (argH K h A) a (vs.map toV) := by
  obtain ⟨us, h1, h2, h3⟩ := ar a ha
  have hu : us = vs := by
    rcases h3 with q | q
    · rw [e] at q
      exact absurd (Value.type.inj (seq_inj q).1) (by decide)
    · rw [e] at q
      exact (seq_inj q).2.symm
  subst hu
  refine ⟨h2, ?_⟩
  cases hk : K.lookup a with
  | none => exact .inl (.inr ⟨_, by rw [argH_at ha hk e, hoOf_tup]⟩)
  | some o =>
    have e2 := KX a o hk
    rw [e] at e2
    obtain rfl := Option.some.inj e2
    exact .inr ⟨_, us.toArray, _, hk, rfl, rfl, by rw [List.size_toArray]; exact h1, by simpa using vals_toV h2⟩
mutual
theorem dw_one {Pm : Params} (KX : K.In h) (ar : ∀ a ∈ A, ArgOb h A a) : ∀ (d : WData) (v : Value), Well Pm h v d → plW d = true → OkU A v → Dw K (argH K h A) (toV v) d
  | .none, _, x, _, _ => by
    cases x
    exact .non
  | .bool b, _, x, _, _ => by
    cases x
    exact .bl b
  | .int i, _, x, _, _ => by
    cases x
    exact .int i
  | .str s, _, x, _, _ => by
    cases x
    exact .str s
  | .bytes b, _, x, _, _ => by
    cases x
    have z := Dw.byt (K := K) (H := argH K h A) b.toArray
    exact z
  | .list ds, _, x, p, hu => by
    obtain ⟨a, vs, rfl, ho, hall⟩ := well_list x
    obtain ⟨h2, hs⟩ := argL KX ar hu ho
    exact .lst hs (dw_all KX ar ds _ hall p h2)
  | .tuple ds, _, x, p, hu => by
    obtain ⟨a, vs, rfl, ho, hall⟩ := well_tuple x
    obtain ⟨h2, hs⟩ := argT KX ar hu ho
    exact .tup hs (dw_all KX ar ds _ hall p h2)
  | .float _, _, _, p, _ => Bool.noConfusion (show false = true from p)
  | .dict _, _, _, p, _ => Bool.noConfusion (show false = true from p)
  | .bytearray _, _, _, p, _ => Bool.noConfusion (show false = true from p)
  | .set _, _, _, p, _ => Bool.noConfusion (show false = true from p)
  | .frozenset _, _, _, p, _ => Bool.noConfusion (show false = true from p)
  | .obj _ _, _, _, p, _ => Bool.noConfusion (show false = true from p)
theorem dw_all {Pm : Params} (KX : K.In h) (ar : ∀ a ∈ A, ArgOb h A a) : ∀ (ds : List WData) (vs : List Value), WellAll Pm h vs ds → plWs ds = true → (∀ u ∈ vs, OkU A u) → DwAll K (argH K h A) (vs.map toV) ds
  | [], _, x, _, _ => by
    cases x
    exact .nil
  | d :: ds, _, x, p, hu => by
    obtain ⟨v, vs, rfl, x1, x2⟩ := well_cons x
    have q : plW d = true ∧ plWs ds = true := Bool.and_eq_true_iff.mp p
    exact .cons (dw_one KX ar d v x1 q.1 (hu _ (List.mem_cons_self ..))) (dw_all KX ar ds vs x2 q.2 fun u m => hu u (List.mem_cons_of_mem _ m))
end
end
/-! ### the call -/
theorem spec_call {P : Program} {w : World} {K : PySem.W.Frag} {mg mb : Str → Option Value} {CX : CXT} {k : Nat} {fa : Addr} {fd : FuncData} {ps : List Str} {sp : Sp} {s₁ : Shared} {vals : List Value} {ds : List WData} {R : PySem.W.WRecords} {cl : Str → Option Addr} {d0 : WData}
    (KX : K.In s₁.heap) (hns : s₁.heap.Ns mainGlobals mg) (hb : s₁.heap.Ns builtinsNs mb) (hbb : ∀ x : Str, x ≠ "__name__" → mb x = bootBuiltins x) (hlim : s₁.heap.NoLimit) (hg : s₁.gens = #[])
    (hwl : WellAll w.params s₁.heap vals ds) (hpl : plWs ds = true) (hwt : ∀ d ∈ ds, d.weight ≤ 1048576) (hr : Room k callerA)
    (F : ∀ base : Heap, K.In base → base.Ns mainGlobals mg → FnOk P w K mg base CX k fa fd ps sp) (hbind : ∀ (s : Shared) (us : List Value), us.length = ps.length → BindsTo s fd ⟨us, []⟩ (ps.zip us)) (hlen : ds.length = ps.length)
    (hsp : ∀ (H : Hp) (xs : List V), OnlyF H → DwAll K H xs ds → sp xs H (fun v H' => Dw K H' v d0) fun _ _ _ => False)
    (hCX : ∀ H e s', CX [] H s₁ (fun _ _ _ => False) e s' → False) :
    codeAny (model P w) callerA (.call (.ref fa) ⟨vals, []⟩) (fun r s' => ∃ u as, r = .ok (.ret u) ∧ ReadsW R cl s'.heap u d0 as ∧ OldK s₁.heap s'.heap ∧ s'.os = s₁.os ∧ AllBare s'.gens) s₁ := by
  obtain ⟨A, ho, ar⟩ := area_all ds vals hwl hpl hwt
  have hO : OnlyF (argH K s₁.heap A) := argH_only ar
  have hok : HOk P w (argH K s₁.heap A) s₁.heap := argH_ok ar
  have hS := dw_all KX ar ds vals hwl hpl ho
  have hV := vals_toV ho
  have hK : ∀ b u, argH K s₁.heap A b = some u → K.lookup b = none := fun b u q => (argH_is ar q).1
  have noA : ∀ {b : Addr} {o : Obj} {es : Array DictEntry} {ep : Nat}, s₁.heap.get? b = some o → o.data = .dict es ep → argH K s₁.heap A b = none := fun {b o es ep} e d => by
    cases q : argH K s₁.heap A b with
    | none => rfl
    | some u =>
      obtain ⟨_, vs, _, _, ⟨e2, _⟩ | ⟨e2, _⟩⟩ := argH_is ar q
      · rw [e2] at e
        cases e
        have d' : Data.seq vs.toArray _ = Data.dict es ep := d
        cases d'
      · rw [e2] at e
        cases e
        have d' : Data.seq vs.toArray _ = Data.dict es ep := d
        cases d'
  generalize argH K s₁.heap A = H at hO hok hS hK noA
  have base_of : ∀ {b : Addr} {o : Obj}, s₁.heap.get? b = some o → H b = none → (hidT s₁.heap H).get? b = some o := fun e n => hidT_get e n
  have nsK : ∀ {b : Addr} {m : Str → Option Value}, s₁.heap.Ns b m → (hidT s₁.heap H).Ns b m := fun {b m} ⟨o, es, ep, e, d, r⟩ => ⟨o, es, ep, base_of e (noA e d), d, r⟩
  have nK : ∀ b o, K.lookup b = some o → H b = none := fun b o e => by
    cases q : H b with
    | none => rfl
    | some u =>
      rw [hK b u q] at e
      cases e
  have hKb : K.In (hidT s₁.heap H) := fun b o e => base_of (KX b o e) (nK b o e)
  have hM : Mod K mg (hidT s₁.heap H) := ⟨hKb, nsK hns, ⟨mb, nsK hb, hbb⟩, let ⟨mc, h1, h2⟩ := hlim; ⟨mc, nsK h1, h2⟩⟩
  have e0 : Env0 P w K mg (hidT s₁.heap H) callerA [] s₁ H := ⟨rfl, hM, fun b o e => of_hidT e, Nat.le_of_eq (hidT_size _ _), trivial, fun b hb => absurd (show b ∈ ([] : List Addr) from hb) (by simp), hok, .of_eq hg⟩
  have hl : vals.length = ps.length := by rw [wellAll_len hwl]; exact hlen
  refine codeAny_mono ((F _ hKb (nsK hns)).run callerA [] s₁ H ⟨vals, []⟩ vals (vals.map toV) _ _ hr e0 (hbind s₁ vals hl) hV (hsp H _ hO hS)) fun r s' x => ?_
  cases r with
  | error e => exact (hCX H e s' x).elim
  | ok fl =>
    cases fl with
    | next => exact False.elim x
    | brk => exact False.elim x
    | cont => exact False.elim x
    | ret u =>
      obtain ⟨v, H', os, bare, un, hok', r', q⟩ := x
      have kept : ∀ b o, s₁.heap.get? b = some o → s'.heap.get? b = some o := fun b o e => by
        cases q2 : H b with
        | none => exact un.keep b o e q2 (by intro z; exact absurd (show b ∈ ([] : List Addr) from z) (by simp)) (by simp)
        | some u2 =>
          rcases hO b with z | ⟨ob, u3, z⟩
          · rw [q2] at z
            cases z
          · have z2 := un.frzs b ob _ z
            obtain ⟨e1, _⟩ := hok b _ z
            obtain ⟨e2, _⟩ := hok' b _ z2
            rw [e] at e1
            cases e1
            exact e2
      have KX' : K.In s'.heap := fun b o e => kept b o (KX b o e)
      obtain ⟨as, hrd⟩ := Dw.reads (R := R) (cl := cl) hok' KX' d0 v u q r'
      exact ⟨u, as, rfl, hrd, OldK.of_keep kept, os, bare⟩
/-! ### the row -/
theorem layable_weight {ds : List WData} (h : WData.layableAll ds = true) : ∀ d ∈ ds, d.weight ≤ 1048576 := fun d hd =>
  (PySem.W.layableW_iff.mp (List.all_eq_true.mp h d hd)).2.2
theorem encAll_len : ∀ (cs : List Codec) (a : Codec.denoteAll cs), (Codec.encAll cs a).length = cs.length
  | [], _ => rfl
  | c :: cs, a => by
    show (Codec.encAll cs a.2).length + 1 = cs.length + 1
    rw [encAll_len cs a.2]
/-- the goal that k_headS leaves (case hc), from the promise of the row's def: whatever the arguments that the codecs let and the row asks for, the def gives what stands for enc (f ..) -/
theorem walk_spec {r : OpenSpec} {k : Nat} {q : Program} {loose : List Str} {XP : (Str → Option Value) → Heap → Prop} {YP : World → Heap → Prop} {d : DefRec} {K : Params → PySem.W.Frag} {CX : World → CXT} {ps : List Str} {sp : World → Sp}
    (hwell : r.wellSaid = true) (hdf : d.params.defaults = []) (hlen : r.args.length = ps.length) (hr : Room k callerA)
    (hY : ∀ (w : World) (h : Heap), YP w h → (K w.params).In h)
    (F : ∀ (w : World) (mg : Str → Option Value) (fa : Addr) (h : Heap), YP w h → (K w.params).In h → h.Ns mainGlobals mg → mg d.name = some (.ref fa) →
      ∃ fd : FuncData, (∀ (s : Shared) (us : List Value), us.length = ps.length → BindsTo s fd ⟨us, []⟩ (ps.zip us)) ∧
        ∀ base : Heap, (K w.params).In base → base.Ns mainGlobals mg → FnOk r.prog w (K w.params) mg base (CX w) k fa fd ps (sp w))
    (hsp : ∀ (w : World) (H : Hp) (xs : List V) (a : Codec.denoteAll r.args), OnlyF H → Codec.withinAll r.args a = true → Codec.app r.args r.asked a = true → DwAll (K w.params) H xs (Codec.encAll r.args a) →
      sp w xs H (fun v H' => Dw (K w.params) H' v (r.ret.enc (Codec.app r.args r.f a))) fun _ _ _ => False)
    (hCX : ∀ (w : World) (H : Hp) (s : Shared) (e : Value) (s' : Shared), CX w [] H s (fun _ _ _ => False) e s' → False) :
    PySem.W.WalkOS q loose XP YP r d [] (fun f vs => PySem.call f vs) := by
  intro w s_0 s₁ mg mb G Y fa o pm cd doc dV kV ho hd hcd hD hmg hg args vals as hpre hlay hrd hwl hlo
  obtain ⟨a, e1, e2⟩ := PySem.W.os_pre_some hpre
  obtain ⟨e3, hwi⟩ := Codec.encAll_of_decAll r.args args a e1
  subst e3
  have KX := hY w _ Y
  obtain ⟨fd, hb, hF⟩ := F w mg fa _ Y KX G.T.g hmg
  refine PySem.W.enter_call (codeAny_mono (spec_call (R := []) (cl := classAt s_0.heap) (d0 := r.ret.enc (Codec.app r.args r.f a)) KX G.T.g G.T.b G.T.builtins G.T.nolimit hg hwl (pl_encAll _ _) (layable_weight hlay) hr hF hb (by rw [encAll_len]; exact hlen)
    (fun H xs hO hS => hsp w H xs a hO hwi e2 hS) fun H e s' => hCX w H s₁ e s') fun r' s' hq => ?_)
  obtain ⟨u, as', rfl, h1, h2, h3, h4⟩ := hq
  exact ⟨.inl ⟨u, _, as', rfl, fun _ => rfl, h1, (OpenSpec.post_iff hwell hwi _ _).mpr rfl, fun z => Bool.noConfusion (show false = true from z)⟩, h2, h3, h4⟩
/-- the same where the promise hangs on the written part alone -/
theorem walk_specK {r : OpenSpec} {k : Nat} {q : Program} {loose : List Str} {XP : (Str → Option Value) → Heap → Prop} {YP : World → Heap → Prop} {d : DefRec} {K : Params → PySem.W.Frag} {CX : CXT} {ps : List Str} {sp : PySem.W.Frag → Sp}
    (hwell : r.wellSaid = true) (hdf : d.params.defaults = []) (hlen : r.args.length = ps.length) (hr : Room k callerA)
    (hY : ∀ (w : World) (h : Heap), YP w h → (K w.params).In h)
    (F : ∀ (w : World) (mg : Str → Option Value) (fa : Addr) (h : Heap), YP w h → (K w.params).In h → h.Ns mainGlobals mg → mg d.name = some (.ref fa) →
      ∃ fd : FuncData, (∀ (s : Shared) (us : List Value), us.length = ps.length → BindsTo s fd ⟨us, []⟩ (ps.zip us)) ∧
        ∀ base : Heap, (K w.params).In base → base.Ns mainGlobals mg → FnOk r.prog w (K w.params) mg base CX k fa fd ps (sp (K w.params)))
    (hsp : ∀ (K : PySem.W.Frag) (H : Hp) (xs : List V) (a : Codec.denoteAll r.args), OnlyF H → Codec.withinAll r.args a = true → Codec.app r.args r.asked a = true → DwAll K H xs (Codec.encAll r.args a) →
      sp K xs H (fun v H' => Dw K H' v (r.ret.enc (Codec.app r.args r.f a))) fun _ _ _ => False)
    (hCX : ∀ (H : Hp) (s : Shared) (e : Value) (s' : Shared), CX [] H s (fun _ _ _ => False) e s' → False) :
    PySem.W.WalkOS q loose XP YP r d [] (fun f vs => PySem.call f vs) :=
  walk_spec (K := K) (CX := fun _ => CX) (sp := fun w => sp (K w.params)) hwell hdf hlen hr hY F (fun w H xs a h1 h2 h3 h4 => hsp (K w.params) H xs a h1 h2 h3 h4) fun _ H s e s' => hCX H s e s'
end L2
-- rests on (row put in by the clerk, for the bench that shows a file only what it spells): KE.SpHead KE.OsShapes
end

section
set_option Elab.async false
namespace Sm
open Si81
/-! ### which leads -/
def leadStep (s : Shelf) (l : List Nat) (t : Nat) (m : Option Nat) (i : Nat) : Option Nat := if s.at_ l t i = 0 then m else match m with
  | none => some i
  | some k => if s.stronger l t i k = true then some i else some k
def leadsTo (s : Shelf) (l : List Nat) (t n : Nat) : Option Nat := (List.range n).foldl (leadStep s l t) none
theorem leads_eq (s : Shelf) (l : List Nat) (t : Nat) : s.leads l t = leadsTo s l t s.count := rfl
theorem leadsTo_zero (s : Shelf) (l : List Nat) (t : Nat) : leadsTo s l t 0 = none := rfl
theorem leadsTo_succ (s : Shelf) (l : List Nat) (t n : Nat) : leadsTo s l t (n + 1) = leadStep s l t (leadsTo s l t n) n := by
  unfold leadsTo
  rw [List.range_succ, List.foldl_append]
  rfl
/-- the leader's strength and how long it lasts, as the loop keeps them -/
def hiOf (s : Shelf) (l : List Nat) (t : Nat) : Option Nat → Nat
  | none => 0
  | some k => s.at_ l t k
def hlOf (s : Shelf) : Option Nat → Nat
  | none => 1
  | some k => (s.material k).lasts
theorem leadStep_pos {s : Shelf} {l : List Nat} {t i : Nat} {m : Option Nat} (h : hiOf s l t m * (s.material i).lasts < s.at_ l t i * hlOf s m) : leadStep s l t m i = some i := by
  have h0 : s.at_ l t i ≠ 0 := by
    intro e; rw [e, Nat.zero_mul] at h; exact absurd h (Nat.not_lt_zero _)
  unfold leadStep
  rw [if_neg h0]
  cases m with
  | none => rfl
  | some k =>
    show (if s.stronger l t i k = true then some i else some k) = some i
    rw [if_pos]
    exact decide_eq_true h
theorem leadStep_neg {s : Shelf} {l : List Nat} {t i : Nat} {m : Option Nat} (h : ¬ hiOf s l t m * (s.material i).lasts < s.at_ l t i * hlOf s m) : leadStep s l t m i = m := by
  unfold leadStep
  by_cases h0 : s.at_ l t i = 0
  · rw [if_pos h0]
  · rw [if_neg h0]
    cases m with
    | none =>
      exfalso; apply h
      show 0 * _ < _ * 1
      rw [Nat.zero_mul, Nat.mul_one]; omega
    | some k =>
      show (if s.stronger l t i k = true then some i else some k) = some k
      rw [if_neg]
      intro e
      exact h (of_decide_eq_true e)
theorem leadStep_isSome {s : Shelf} {l : List Nat} {t i : Nat} {m : Option Nat} (h : m.isSome = true ∨ s.at_ l t i ≠ 0) : (leadStep s l t m i).isSome = true := by
  unfold leadStep
  by_cases h0 : s.at_ l t i = 0
  · rw [if_pos h0]
    rcases h with h | h
    · exact h
    · exact absurd h0 h
  · rw [if_neg h0]
    cases m with
    | none => rfl
    | some k =>
      show (if s.stronger l t i k = true then some i else some k).isSome = true
      split <;> rfl
theorem leadsTo_isSome {s : Shelf} {l : List Nat} {t i : Nat} (h : s.at_ l t i ≠ 0) : ∀ n, i < n → (leadsTo s l t n).isSome = true
  | 0, hn => absurd hn (Nat.not_lt_zero _)
  | n + 1, hn => by
    rw [leadsTo_succ]
    apply leadStep_isSome
    by_cases e : i = n
    · subst e; exact .inr h
    · exact .inl (leadsTo_isSome h n (by omega))
theorem leadsTo_lt {s : Shelf} {l : List Nat} {t : Nat} : ∀ {n k : Nat}, leadsTo s l t n = some k → k < n
  | 0, k, h => by rw [leadsTo_zero] at h; cases h
  | n + 1, k, h => by
    rw [leadsTo_succ] at h
    by_cases c : hiOf s l t (leadsTo s l t n) * (s.material n).lasts < s.at_ l t n * hlOf s (leadsTo s l t n)
    · rw [leadStep_pos c] at h; cases h; omega
    · rw [leadStep_neg c] at h
      have := leadsTo_lt h
      omega
/-! ### when it's over -/
def overTo (s : Shelf) (l : List Nat) (n : Nat) : Nat := ((List.range n).map fun i => if l.getD i 0 = 0 then 0 else (s.material i).lasts).foldl max 0
theorem over_eq (s : Shelf) (l : List Nat) : s.over l = overTo s l s.count := rfl
theorem overTo_zero (s : Shelf) (l : List Nat) : overTo s l 0 = 0 := rfl
theorem overTo_succ (s : Shelf) (l : List Nat) (n : Nat) : overTo s l (n + 1) = max (overTo s l n) (if l.getD n 0 = 0 then 0 else (s.material n).lasts) := by
  unfold overTo
  rw [List.range_succ, List.map_append, List.foldl_append]
  rfl
theorem overTo_wit {s : Shelf} {l : List Nat} {t : Nat} : ∀ {n : Nat}, t < overTo s l n → ∃ i, i < n ∧ l.getD i 0 ≠ 0 ∧ t < (s.material i).lasts
  | 0, h => absurd h (Nat.not_lt_zero _)
  | n + 1, h => by
    rw [overTo_succ] at h
    by_cases c : t < overTo s l n
    · obtain ⟨i, h1, h2, h3⟩ := overTo_wit c
      exact ⟨i, by omega, h2, h3⟩
    · by_cases e : l.getD n 0 = 0
      · rw [if_pos e] at h; omega
      · rw [if_neg e] at h
        exact ⟨n, by omega, e, by omega⟩
/-- a shelf as the calls keep it -/
structure Good (s : Shelf) : Prop where
  d1 : 1 ≤ s.drops
  d2 : s.drops ≤ 20
  few : s.materials.length ≤ 4
  mat : ∀ m ∈ s.materials, 1 ≤ m.strong ∧ m.strong ≤ 100 ∧ 1 ≤ m.lasts ∧ m.lasts ≤ 24 ∧ m.most ≤ 5
theorem material_get {s : Shelf} {i : Nat} (h : i < s.count) : s.material i ∈ s.materials := by
  unfold Shelf.material
  rw [List.getD_eq_getElem?_getD, List.getElem?_eq_getElem (show i < s.materials.length from h)]
  exact List.getElem_mem _
theorem material_of {s : Shelf} {i : Nat} {m : Material} (h : s.materials[i]? = some m) : s.material i = m := by
  unfold Shelf.material
  rw [List.getD_eq_getElem?_getD, h]
  rfl
theorem leads_some {s : Shelf} {l : List Nat} {t : Nat} (g : Good s) (h : t < s.over l) : ∃ k, s.leads l t = some k ∧ k < s.count := by
  rw [over_eq] at h
  obtain ⟨i, h1, h2, h3⟩ := overTo_wit h
  have hm := g.mat _ (material_get h1)
  have h4 : s.at_ l t i ≠ 0 := by
    unfold Shelf.at_
    have p1 : 0 < l.getD i 0 := by omega
    have p2 : 0 < (s.material i).strong := by omega
    have p3 : 0 < (s.material i).lasts - t := by omega
    exact Nat.ne_of_gt (Nat.mul_pos (Nat.mul_pos p1 p2) p3)
  have := leadsTo_isSome h4 s.count h1
  rw [← leads_eq] at this
  cases e : s.leads l t with
  | none => rw [e] at this; cases this
  | some k =>
    rw [leads_eq] at e
    exact ⟨k, rfl, leadsTo_lt e⟩
/-! ### runs, grown at the end -/
def addRun : List (Nat × Nat) → Nat → List (Nat × Nat)
  | [], x => [(x, 1)]
  | [p], x => if p.1 = x then [(p.1, p.2 + 1)] else [p, (x, 1)]
  | p :: q :: r, x => p :: addRun (q :: r) x
theorem runs_ne {x : Nat} {l : List Nat} : runs (x :: l) ≠ [] := by
  intro h
  unfold runs at h
  cases e : runs l with
  | nil => rw [e] at h; cases h
  | cons p r =>
    rw [e] at h
    by_cases c : p.1 = x
    · simp only [if_pos c] at h; cases h
    · simp only [if_neg c] at h; cases h
theorem runs_cons (i : Nat) (l : List Nat) : runs (i :: l) = match runs l with
    | [] => [(i, 1)]
    | x :: r => if x.1 = i then (i, x.2 + 1) :: r else (i, 1) :: x :: r := rfl
theorem runs_snoc : ∀ (l : List Nat) (x : Nat), runs (l ++ [x]) = addRun (runs l) x
  | [], x => rfl
  | i :: l, x => by
    rw [List.cons_append, runs_cons, runs_cons, runs_snoc l x]
    cases e : runs l with
    | nil =>
      show (if x = i then (i, 1 + 1) :: [] else (i, 1) :: (x, 1) :: []) = (if i = x then [(i, 1 + 1)] else [(i, 1), (x, 1)])
      by_cases c : i = x
      · rw [if_pos c.symm, if_pos c]
      · rw [if_neg (fun h => c h.symm), if_neg c]
    | cons p r =>
      cases r with
      | nil =>
        show (match (if p.1 = x then [(p.1, p.2 + 1)] else [p, (x, 1)]) with | [] => [(i, 1)] | y :: r => _) = addRun (if p.1 = i then [(i, p.2 + 1)] else [(i, 1), p]) x
        by_cases c : p.1 = x
        · rw [if_pos c]
          by_cases d : p.1 = i
          · rw [if_pos d]
            show (if p.1 = i then (i, p.2 + 1 + 1) :: [] else _) = (if i = x then [(i, p.2 + 1 + 1)] else _)
            rw [if_pos d, if_pos (d.symm.trans c)]
          · rw [if_neg d]
            show (if p.1 = i then _ else (i, 1) :: (p.1, p.2 + 1) :: []) = (i, 1) :: (if p.1 = x then [(p.1, p.2 + 1)] else _)
            rw [if_neg d, if_pos c]
        · rw [if_neg c]
          by_cases d : p.1 = i
          · rw [if_pos d]
            show (if p.1 = i then (i, p.2 + 1) :: [(x, 1)] else _) = (if i = x then _ else [(i, p.2 + 1), (x, 1)])
            rw [if_pos d, if_neg (fun h => c (d.trans h))]
          · rw [if_neg d]
            show (if p.1 = i then _ else (i, 1) :: p :: [(x, 1)]) = (i, 1) :: (if p.1 = x then _ else [p, (x, 1)])
            rw [if_neg d, if_neg c]
      | cons q r =>
        show (if p.1 = i then (i, p.2 + 1) :: addRun (q :: r) x else (i, 1) :: p :: addRun (q :: r) x) = addRun (if p.1 = i then (i, p.2 + 1) :: q :: r else (i, 1) :: p :: q :: r) x
        by_cases d : p.1 = i
        · rw [if_pos d, if_pos d]
          rfl
        · rw [if_neg d, if_neg d]
          rfl
/-- pairs one behind another -/
def flat2 (r : List (Nat × Nat)) : List Nat := r.flatMap fun x => [x.1, x.2]
theorem addRun_last (r : List (Nat × Nat)) (p : Nat × Nat) (x : Nat) : addRun (r ++ [p]) x = if p.1 = x then r ++ [(p.1, p.2 + 1)] else r ++ [p, (x, 1)] := by
  induction r with
  | nil => rfl
  | cons q r ih =>
    cases r with
    | nil =>
      show q :: addRun [p] x = _
      have ih' : addRun [p] x = if p.1 = x then [(p.1, p.2 + 1)] else [p, (x, 1)] := ih
      rw [ih']
      split <;> rfl
    | cons q' r' =>
      show q :: addRun (q' :: r' ++ [p]) x = _
      rw [ih]
      split <;> rfl
theorem flat2_append (a b : List (Nat × Nat)) : flat2 (a ++ b) = flat2 a ++ flat2 b := by
  unfold flat2; rw [List.flatMap_append]
def leadersTo (s : Shelf) (l : List Nat) (n : Nat) : List Nat := (List.range n).filterMap fun t => s.leads l t
theorem leadersTo_succ {s : Shelf} {l : List Nat} {n k : Nat} (h : s.leads l n = some k) : leadersTo s l (n + 1) = leadersTo s l n ++ [k] := by
  unfold leadersTo
  rw [List.range_succ, List.filterMap_append]
  simp [h]
end Sm
namespace Sm
open Si81
/-! ### how long each that is there lasts; the greatest of these is the end -/
def lastsTo (s : Shelf) (l : List Nat) (n : Nat) : List Int := (List.range n).filterMap fun i => if l.getD i 0 = 0 then none else some (((s.material i).lasts : Nat) : Int)
theorem lastsTo_skip {s : Shelf} {l : List Nat} {n : Nat} (h : l.getD n 0 = 0) : lastsTo s l (n + 1) = lastsTo s l n := by
  unfold lastsTo
  rw [List.range_succ, List.filterMap_append, List.filterMap_cons, if_pos h]
  exact List.append_nil _
theorem lastsTo_more {s : Shelf} {l : List Nat} {n : Nat} (h : l.getD n 0 ≠ 0) : lastsTo s l (n + 1) = lastsTo s l n ++ [(((s.material n).lasts : Nat) : Int)] := by
  unfold lastsTo
  rw [List.range_succ, List.filterMap_append, List.filterMap_cons, if_neg h]
  rfl
theorem lastsTo_len (s : Shelf) (l : List Nat) (n : Nat) : (lastsTo s l n).length ≤ n := by
  unfold lastsTo
  exact Nat.le_trans (List.length_filterMap_le _ _) (by rw [List.length_range]; exact Nat.le_refl _)
theorem lastsTo_over (s : Shelf) (l : List Nat) : ∀ n, (∀ z ∈ lastsTo s l n, z ≤ (overTo s l n : Int)) ∧ (overTo s l n = 0 ∨ ((overTo s l n : Nat) : Int) ∈ lastsTo s l n)
  | 0 => ⟨fun z hz => by simp [lastsTo] at hz, .inl rfl⟩
  | n + 1 => by
    obtain ⟨h1, h2⟩ := lastsTo_over s l n
    rw [overTo_succ]
    by_cases c : l.getD n 0 = 0
    · rw [lastsTo_skip c, if_pos c, Nat.max_zero]
      exact ⟨h1, h2⟩
    · rw [lastsTo_more c, if_neg c]
      refine ⟨fun z hz => ?_, ?_⟩
      · rcases List.mem_append.mp hz with hz | hz
        · have := h1 z hz; omega
        · have : z = (((s.material n).lasts : Nat) : Int) := by simpa using hz
          omega
      · by_cases d : overTo s l n ≤ (s.material n).lasts
        · rw [Nat.max_eq_right d]
          exact .inr (List.mem_append_right _ (by simp))
        · rw [Nat.max_eq_left (by omega)]
          rcases h2 with h2 | h2
          · omega
          · exact .inr (List.mem_append_left _ h2)
theorem over_nil {s : Shelf} {l : List Nat} {n : Nat} (h : lastsTo s l n = []) : overTo s l n = 0 := by
  rcases (lastsTo_over s l n).2 with q | q
  · exact q
  · rw [h] at q; simp at q
theorem over_max {s : Shelf} {l : List Nat} {n : Nat} {m : Int} (h : m ∈ lastsTo s l n) (h2 : ∀ z, z ∈ lastsTo s l n → z ≤ m) : m = (overTo s l n : Int) := by
  obtain ⟨a, b⟩ := lastsTo_over s l n
  have a1 := a m h
  rcases b with b | b
  · have h0 : 0 ≤ m := by
      unfold lastsTo at h
      obtain ⟨i, _, e⟩ := List.mem_filterMap.mp h
      by_cases c : l.getD i 0 = 0
      · rw [if_pos c] at e; cases e
      · rw [if_neg c] at e
        have := Option.some.inj e
        omega
    omega
  · have := h2 _ b
    omega
end Sm
end
section
set_option Elab.async false
set_option linter.all false
/-! the list of calls, call by call -/
namespace Sm
open Si81
def natI (n : Nat) : Int := (n : Int)
/-- the call that stands at place i of the list, and where it ends -/
def View (ns : List Int) (i : Nat) (c : Call) (e : Nat) : Prop := match c with
  | .begins d => ns.drop i = 0 :: natI d :: ns.drop e ∧ e = i + 2
  | .material m => ns.drop i = 1 :: natI m.strong :: natI m.lasts :: natI m.most :: ns.drop e ∧ e = i + 4
  | .course f => ns.drop i = 2 :: natI f.length :: (Si81.ints f ++ ns.drop e) ∧ e = i + 2 + f.length ∧ f.length ≤ 6
  | .fewest f => ns.drop i = 3 :: natI f.length :: (Si81.ints f ++ ns.drop e) ∧ e = i + 2 + f.length ∧ f.length ≤ 6
  | .even f => ns.drop i = 4 :: natI f.length :: (Si81.ints f ++ ns.drop e) ∧ e = i + 2 + f.length ∧ f.length ≤ 6
  | .orders => ns.drop i = 5 :: ns.drop e ∧ e = i + 1
/-- one answer: the number, then what's told -/
def ansN (r : Ans) : List Int := r.v :: r.l
theorem step_of {c : Si81Neutral.Call} {q : Call} (s : Shelf) (h : Si81Neutral.callOf (c.headD []) = some q) : Si81Neutral.step s c = ((Si81.step s q).1, ansN (Si81.step s q).2) := by
  unfold Si81Neutral.step
  rw [h]
  rfl
theorem nat_of {l : List Int} (h : (l.all fun z => Si81Neutral.natural z 32) = true) : l = Si81.ints (l.map Int.toNat) := by
  unfold Si81.ints
  rw [List.map_map]
  have : ∀ x ∈ l, ((fun (n : Nat) => (n : Int)) ∘ Int.toNat) x = x := by
    intro x hx
    have h1 := List.all_eq_true.mp h x hx
    unfold Si81Neutral.natural at h1
    rw [Bool.and_eq_true] at h1
    have h2 := of_decide_eq_true h1.1
    show ((x.toNat : Nat) : Int) = x
    omega
  exact (List.map_id l).symm.trans (List.map_congr_left fun x hx => (this x hx).symm)
theorem drop_two {ns : List Int} {i : Nat} {a b : Int} {t : List Int} (h : ns.drop i = a :: b :: t) : ns.drop (i + 2) = t := by
  rw [← List.drop_drop, h]
  rfl
theorem drop_cons {ns : List Int} {i : Nat} {a : Int} {t : List Int} (h : ns.drop i = a :: t) : ns.drop (i + 1) = t := by
  rw [← List.drop_drop, h]
  rfl
theorem row_shape {r x t : List Int} (h : PyFlat.row r = some (x, t)) : ∃ n : Nat, r = (n : Int) :: (x ++ t) ∧ x.length = n := by
  cases r with
  | nil => cases h
  | cons n r =>
    have h : (if 0 ≤ n ∧ n.toNat ≤ r.length then some (r.take n.toNat, r.drop n.toNat) else none) = some (x, t) := h
    by_cases c : 0 ≤ n ∧ n.toNat ≤ r.length
    · rw [if_pos c] at h
      have h' := Option.some.inj h
      have e1 : r.take n.toNat = x := congrArg Prod.fst h'
      have e2 : r.drop n.toNat = t := congrArg Prod.snd h'
      refine ⟨n.toNat, ?_, ?_⟩
      · rw [← e1, ← e2, List.take_append_drop]
        congr 1
        omega
      · rw [← e1, List.length_take]
        omega
    · rw [if_neg c] at h
      cases h
theorem rows1_shape {r : List Int} {xs : List (List Int)} {t : List Int} (h : PyFlat.rows 1 r = some (xs, t)) : ∃ x, xs = [x] ∧ ∃ n : Nat, r = (n : Int) :: (x ++ t) ∧ x.length = n := by
  unfold PyFlat.rows at h
  cases e : PyFlat.row r with
  | none => rw [e] at h; cases h
  | some p =>
    obtain ⟨x, u⟩ := p
    rw [e] at h
    have h1 : some ([x], u) = some (xs, t) := h
    have h2 := Option.some.inj h1
    have e1 : [x] = xs := congrArg Prod.fst h2
    have e2 : u = t := congrArg Prod.snd h2
    subst e1 e2
    exact ⟨x, rfl, row_shape e⟩
/-- a call with one row -/
theorem view_row {ns : List Int} {i : Nat} {p : Int} {r : List Int} {xs : List (List Int)} {t : List Int} (hd : ns.drop i = p :: r) (h : PyFlat.rows 1 r = some (xs, t)) (ha : ∀ x, xs = [x] → (x.all fun z => Si81Neutral.natural z 32) = true) :
    ∃ f : List Nat, xs = [Si81.ints f] ∧ ns.drop i = p :: natI f.length :: (Si81.ints f ++ ns.drop (i + 2 + f.length)) ∧ t = ns.drop (i + 2 + f.length) := by
  obtain ⟨x, e, n, e2, hl⟩ := rows1_shape h
  have hx := nat_of (ha x e)
  refine ⟨x.map Int.toNat, by rw [e, ← hx], ?_⟩
  have el : (x.map Int.toNat).length = n := by rw [List.length_map]; exact hl
  rw [el, ← hx]
  have et : ns.drop (i + 2 + n) = t := by
    rw [e2] at hd
    rw [← List.drop_drop, drop_two hd, ← hl, List.drop_left]
  rw [et]
  refine ⟨?_, rfl⟩
  rw [hd, e2]
  rfl
theorem asked1_all {c : Si81Neutral.Call} (h : Si81Neutral.asked1 c = true) : ((c.headD []).all fun z => Si81Neutral.natural z 32) = true ∧ (Si81Neutral.callOf (c.headD [])).isSome = true := by
  unfold Si81Neutral.asked1 at h
  rw [Bool.and_eq_true, Bool.and_eq_true] at h
  exact h.2
theorem toNat_ints (f : List Nat) : (Si81.ints f).map Int.toNat = f := by
  unfold Si81.ints
  rw [List.map_map]
  exact (List.map_congr_left fun x _ => by show ((x : Int)).toNat = x; omega).trans (List.map_id f)
/-- the next call of a list whose calls are asked as told -/
theorem next_call {ns : List Int} {i fuel : Nat} {rest : List (List (List Int))} (h : PyFlat.calls PySi81.shape fuel (ns.drop i) = some rest) (hi : i < ns.length) (ha : ((rest.map PySi81.whole).all Si81Neutral.asked1) = true) :
    ∃ (fuel' : Nat) (c0 : List (List Int)) (rest' : List (List (List Int))) (c : Call) (e : Nat), rest = c0 :: rest' ∧ View ns i c e ∧ PyFlat.calls PySi81.shape fuel' (ns.drop e) = some rest' ∧ ((rest'.map PySi81.whole).all Si81Neutral.asked1) = true ∧
      ∀ s, Si81Neutral.step s (PySi81.whole c0) = ((Si81.step s c).1, ansN (Si81.step s c).2) := by
  obtain ⟨p, r, hd⟩ : ∃ p r, ns.drop i = p :: r := by
    cases e : ns.drop i with
    | nil =>
      have := List.drop_eq_nil_iff.mp e
      omega
    | cons p r => exact ⟨p, r, rfl⟩
  rw [hd] at h
  cases fuel with
  | zero => cases h
  | succ fuel =>
    unfold PyFlat.calls at h
    cases e1 : PyFlat.call PySi81.shape (p :: r) with
    | none => rw [e1] at h; cases h
    | some ct =>
      obtain ⟨c0, t⟩ := ct
      rw [e1] at h
      cases e2 : PyFlat.calls PySi81.shape fuel t with
      | none =>
        have h' : (match PyFlat.calls PySi81.shape fuel t with | none => none | some cs => some (c0 :: cs)) = some rest := h
        rw [e2] at h'; cases h'
      | some rest' =>
        have h' : (match PyFlat.calls PySi81.shape fuel t with | none => none | some cs => some (c0 :: cs)) = some rest := h
        rw [e2] at h'
        have er : c0 :: rest' = rest := Option.some.inj h'
        subst er
        rw [List.map_cons, List.all_cons, Bool.and_eq_true] at ha
        obtain ⟨ha0, har⟩ := ha
        obtain ⟨a1, a2⟩ := asked1_all ha0
        refine ⟨fuel, c0, rest', ?_⟩
        -- by the call's number
        unfold PyFlat.call at e1
        have key : ∀ (n k : Nat), PySi81.shape p = some (n, k) → ¬ r.length < n ∧ ∃ xs, PyFlat.rows k (r.drop n) = some (xs, t) ∧ c0 = (p :: r.take n) :: xs := by
          intro n k hs
          have e1' : (match PySi81.shape p with | none => none | some (n, k) => if r.length < n then none else match PyFlat.rows k (r.drop n) with | none => none | some (xs, t) => some ((p :: r.take n) :: xs, t)) = some (c0, t) := e1
          rw [hs] at e1'
          have e1'' : (if r.length < n then none else match PyFlat.rows k (r.drop n) with | none => none | some (xs, t) => some ((p :: r.take n) :: xs, t)) = some (c0, t) := e1'
          by_cases hl : r.length < n
          · rw [if_pos hl] at e1''; cases e1''
          · rw [if_neg hl] at e1''
            cases e3 : PyFlat.rows k (r.drop n) with
            | none => rw [e3] at e1''; cases e1''
            | some q =>
              obtain ⟨xs, u⟩ := q
              rw [e3] at e1''
              have z := Option.some.inj e1''
              have z1 : (p :: r.take n) :: xs = c0 := congrArg Prod.fst z
              have z2 : u = t := congrArg Prod.snd z
              exact ⟨hl, xs, by rw [z2], z1.symm⟩
        by_cases p0 : p = 0
        · subst p0
          obtain ⟨hl, xs, hr, rfl⟩ := key 1 0 rfl
          have hr' := Option.some.inj hr
          have x0 : [] = xs := congrArg Prod.fst hr'
          have t0 : r.drop 1 = t := congrArg Prod.snd hr'
          subst x0
          match r, hl with
          | [], hl => exact absurd (show ([] : List Int).length < 1 by decide) hl
          | x :: r', hl =>
            have t1 : r' = t := t0
            subst t1
            have a1' : (([0, x] : List Int).all fun z => Si81Neutral.natural z 32) = true := a1
            have hx : x = natI x.toNat := by
              have := nat_of a1'
              exact (List.cons.inj (List.cons.inj this).2).1
            have e' : ns.drop (i + 2) = r' := drop_two hd
            refine ⟨.begins x.toNat, i + 2, rfl, ⟨?_, rfl⟩, by rw [e']; exact e2, har, fun s => step_of s rfl⟩
            rw [e', hd, ← hx]
        by_cases p1 : p = 1
        · subst p1
          obtain ⟨hl, xs, hr, rfl⟩ := key 3 0 rfl
          have hr' := Option.some.inj hr
          have x0 : [] = xs := congrArg Prod.fst hr'
          have t0 : r.drop 3 = t := congrArg Prod.snd hr'
          subst x0
          match r, hl with
          | [], hl => exact absurd (show ([] : List Int).length < 3 by decide) hl
          | [_], hl => exact absurd (show 1 < 3 by decide) hl
          | [_, _], hl => exact absurd (show 2 < 3 by decide) hl
          | x :: y :: z :: r', hl =>
            have t1 : r' = t := t0
            subst t1
            have a1' : (([1, x, y, z] : List Int).all fun z => Si81Neutral.natural z 32) = true := a1
            have hn := (List.cons.inj (nat_of a1')).2
            have hx : x = natI x.toNat := (List.cons.inj hn).1
            have hy : y = natI y.toNat := (List.cons.inj (List.cons.inj hn).2).1
            have hz : z = natI z.toNat := (List.cons.inj (List.cons.inj (List.cons.inj hn).2).2).1
            have e' : ns.drop (i + 4) = r' := by
              have : i + 4 = i + 2 + 2 := by omega
              rw [this]
              exact drop_two (drop_two hd)
            refine ⟨.material ⟨x.toNat, y.toNat, z.toNat⟩, i + 4, rfl, ⟨?_, rfl⟩, by rw [e']; exact e2, har, fun s => step_of s rfl⟩
            show _ = 1 :: natI x.toNat :: natI y.toNat :: natI z.toNat :: _
            rw [e', hd, ← hx, ← hy, ← hz]
        -- the three with a row
        have rowed : ∀ (k : Nat) (mk : List Nat → Call), p = (k : Int) → (k = 2 ∨ k = 3 ∨ k = 4) → PySi81.shape p = some (0, 1) → (∀ f : List Nat, f.length ≤ 6 → Si81Neutral.callOf ((k : Int) :: Si81.ints f) = some (mk f)) →
            (∀ f : List Nat, ¬ f.length ≤ 6 → Si81Neutral.callOf ((k : Int) :: Si81.ints f) = none) → (∀ x, PySi81.whole [[(k : Int)], x] = [(k : Int) :: x]) →
            ∃ f : List Nat, f.length ≤ 6 ∧ ns.drop i = p :: natI f.length :: (Si81.ints f ++ ns.drop (i + 2 + f.length)) ∧ PyFlat.calls PySi81.shape fuel (ns.drop (i + 2 + f.length)) = some rest' ∧
              ∀ s, Si81Neutral.step s (PySi81.whole c0) = ((Si81.step s (mk f)).1, ansN (Si81.step s (mk f)).2) := by
          intro k mk hp hk hs c1 c2 hw
          obtain ⟨_, xs, hr, rfl⟩ := key 0 1 hs
          have hr' : PyFlat.rows 1 r = some (xs, t) := hr
          have ec0 : ∀ x, xs = [x] → ((p :: r.take 0) :: xs) = [[(k : Int)], x] := by
            intro x ex
            rw [ex, hp]
            rfl
          obtain ⟨f, ex, hv, ht⟩ := view_row hd hr' (fun x ex => by
            have z := a1
            rw [ec0 x ex, hw x] at z
            have z' : (((k : Int) :: x).all fun z => Si81Neutral.natural z 32) = true := z
            rw [List.all_cons, Bool.and_eq_true] at z'
            exact z'.2)
          have ew : PySi81.whole ((p :: r.take 0) :: xs) = [(k : Int) :: Si81.ints f] := by rw [ec0 _ ex, hw]
          have small : f.length ≤ 6 := by
            by_cases z : f.length ≤ 6
            · exact z
            · have y := a2
              rw [ew] at y
              have y' : (Si81Neutral.callOf ((k : Int) :: Si81.ints f)).isSome = true := y
              rw [c2 f z] at y'
              cases y'
          refine ⟨f, small, hv, by rw [← ht]; exact e2, fun s => ?_⟩
          rw [ew]
          exact step_of s (c1 f small)
        by_cases p2 : p = 2
        · obtain ⟨f, h6, hv, hc, hst⟩ := rowed 2 .course p2 (by decide) (by rw [p2]; rfl)
            (fun f hf => by unfold Si81Neutral.callOf; rw [List.map_cons, toNat_ints]; exact if_pos hf) (fun f hf => by unfold Si81Neutral.callOf; rw [List.map_cons, toNat_ints]; exact if_neg hf) (fun x => rfl)
          exact ⟨.course f, i + 2 + f.length, rfl, ⟨by rw [← p2]; exact hv, rfl, h6⟩, hc, har, hst⟩
        by_cases p3 : p = 3
        · obtain ⟨f, h6, hv, hc, hst⟩ := rowed 3 .fewest p3 (by decide) (by rw [p3]; rfl)
            (fun f hf => by unfold Si81Neutral.callOf; rw [List.map_cons, toNat_ints]; exact if_pos hf) (fun f hf => by unfold Si81Neutral.callOf; rw [List.map_cons, toNat_ints]; exact if_neg hf) (fun x => rfl)
          exact ⟨.fewest f, i + 2 + f.length, rfl, ⟨by rw [← p3]; exact hv, rfl, h6⟩, hc, har, hst⟩
        by_cases p4 : p = 4
        · obtain ⟨f, h6, hv, hc, hst⟩ := rowed 4 .even p4 (by decide) (by rw [p4]; rfl)
            (fun f hf => by unfold Si81Neutral.callOf; rw [List.map_cons, toNat_ints]; exact if_pos hf) (fun f hf => by unfold Si81Neutral.callOf; rw [List.map_cons, toNat_ints]; exact if_neg hf) (fun x => rfl)
          exact ⟨.even f, i + 2 + f.length, rfl, ⟨by rw [← p4]; exact hv, rfl, h6⟩, hc, har, hst⟩
        by_cases p5 : p = 5
        · subst p5
          obtain ⟨hl, xs, hr, rfl⟩ := key 0 0 rfl
          have hr' := Option.some.inj hr
          have x0 : [] = xs := congrArg Prod.fst hr'
          have t0 : r = t := congrArg Prod.snd hr'
          subst x0 t0
          have e' : ns.drop (i + 1) = r := drop_cons hd
          refine ⟨.orders, i + 1, rfl, ⟨by rw [e']; exact hd, rfl⟩, by rw [e']; exact e2, har, fun s => step_of s rfl⟩
        · exfalso
          have hs : PySi81.shape p = none := by
            unfold PySi81.shape
            rw [if_neg p0, if_neg p1, if_neg p2, if_neg p3, if_neg p4, if_neg p5]
          have e1' : (match PySi81.shape p with | none => none | some (n, k) => if r.length < n then none else match PyFlat.rows k (r.drop n) with | none => none | some (xs, t) => some ((p :: r.take n) :: xs, t)) = some (c0, t) := e1
          rw [hs] at e1'
          cases e1'
theorem step_good {s : Shelf} (g : Good s) (c : Call) : Good (Si81.step s c).1 := by
  cases c with
  | begins d =>
    show Good (if d < 1 ∨ DROPS < d then (s, ok (-1)) else (⟨d, []⟩, ok 0)).1
    by_cases z : d < 1 ∨ DROPS < d
    · rw [if_pos z]; exact g
    · rw [if_neg z]
      have z' : ¬ (d < 1 ∨ 20 < d) := z
      exact ⟨by show 1 ≤ d; omega, by show d ≤ 20; omega, Nat.zero_le _, fun m hm => by simp at hm⟩
  | material m =>
    show Good (if m.strong < 1 ∨ STRONG < m.strong ∨ m.lasts < 1 ∨ LASTS < m.lasts ∨ EACH < m.most then (s, ok (-1)) else if MATERIALS ≤ s.count then (s, ok (-5)) else ({ s with materials := s.materials ++ [m] }, ok ((s.count : Nat) : Int))).1
    by_cases z : m.strong < 1 ∨ STRONG < m.strong ∨ m.lasts < 1 ∨ LASTS < m.lasts ∨ EACH < m.most
    · rw [if_pos z]; exact g
    · rw [if_neg z]
      have z' : ¬ (m.strong < 1 ∨ 100 < m.strong ∨ m.lasts < 1 ∨ 24 < m.lasts ∨ 5 < m.most) := z
      by_cases y : MATERIALS ≤ s.count
      · rw [if_pos y]; exact g
      · rw [if_neg y]
        have y' : ¬ 4 ≤ s.materials.length := y
        refine ⟨g.d1, g.d2, ?_, fun m' hm => ?_⟩
        · show (s.materials ++ [m]).length ≤ 4
          rw [List.length_append, List.length_singleton]
          omega
        · rcases List.mem_append.mp (show m' ∈ s.materials ++ [m] from hm) with hm | hm
          · exact g.mat m' hm
          · have e : m' = m := by simpa using hm
            subst e
            omega
  | course f =>
    show Good (if s.told f = false then (s, ok (-1)) else if s.right f = false then (s, ok (-4)) else (s, (⟨((s.over f : Nat) : Int), Si81.ints ((s.course f).flatMap fun x => [x.1, x.2])⟩ : Ans))).1
    split
    · exact g
    · split <;> exact g
  | fewest o =>
    have e : (Si81.step s (.fewest o)).1 = s := by
      show (if s.asked o < 0 then (s, ok (s.asked o)) else (s, _)).1 = s
      split <;> rfl
    rw [e]; exact g
  | even o =>
    have e : (Si81.step s (.even o)).1 = s := by
      show (if s.asked o < 0 then (s, ok (s.asked o)) else (s, _)).1 = s
      split <;> rfl
    rw [e]; exact g
  | orders => exact g
theorem init_good : Good init := ⟨by decide, by decide, by decide, fun m hm => by simp [init] at hm⟩
end Sm
namespace Sm
open Si81
/-- a call's own numbers -/
def numsC : Call → List Int
  | .begins d => [0, natI d]
  | .material m => [1, natI m.strong, natI m.lasts, natI m.most]
  | .course f => 2 :: natI f.length :: Si81.ints f
  | .fewest f => 3 :: natI f.length :: Si81.ints f
  | .even f => 4 :: natI f.length :: Si81.ints f
  | .orders => [5]
theorem ints_len (f : List Nat) : (Si81.ints f).length = f.length := List.length_map _
theorem view_of {ns : List Int} {i : Nat} {c : Call} {e : Nat} (h : View ns i c e) : ns.drop i = numsC c ++ ns.drop e ∧ e = i + (numsC c).length := by
  cases c with
  | begins d => exact ⟨h.1, h.2⟩
  | material m => exact ⟨h.1, h.2⟩
  | course f => exact ⟨h.1, by rw [h.2.1]; show _ = i + ((Si81.ints f).length + 1 + 1); rw [ints_len]; omega⟩
  | fewest f => exact ⟨h.1, by rw [h.2.1]; show _ = i + ((Si81.ints f).length + 1 + 1); rw [ints_len]; omega⟩
  | even f => exact ⟨h.1, by rw [h.2.1]; show _ = i + ((Si81.ints f).length + 1 + 1); rw [ints_len]; omega⟩
  | orders => exact ⟨h.1, h.2⟩
theorem numsC_pos (c : Call) : 0 < (numsC c).length := by
  cases c <;> exact Nat.succ_pos _
theorem view_le {ns : List Int} {i : Nat} {c : Call} {e : Nat} (h : View ns i c e) : i < e ∧ e ≤ ns.length ∧ (ns.drop i).take (e - i) = numsC c := by
  obtain ⟨h1, h2⟩ := view_of h
  have hp := numsC_pos c
  refine ⟨by omega, ?_, ?_⟩
  · have hl := congrArg List.length h1
    rw [List.length_append, List.length_drop, List.length_drop] at hl
    omega
  · rw [h1, h2, Nat.add_sub_cancel_left, List.take_left]
/-- a list's calls played -/
theorem played_cons (s : Shelf) (c0 : List (List Int)) (rest : List (List (List Int))) {c : Call} (h : Si81Neutral.step s (PySi81.whole c0) = ((Si81.step s c).1, ansN (Si81.step s c).2)) :
    PyFlat.told (PyFlat.played Si81Neutral.step s ((c0 :: rest).map PySi81.whole)) = (((ansN (Si81.step s c).2).length : Int) :: ansN (Si81.step s c).2) ++ PyFlat.told (PyFlat.played Si81Neutral.step (Si81.step s c).1 (rest.map PySi81.whole)) := by
  rw [List.map_cons]
  show PyFlat.told ((Si81Neutral.step s (PySi81.whole c0)).2 :: PyFlat.played Si81Neutral.step (Si81Neutral.step s (PySi81.whole c0)).1 (rest.map PySi81.whole)) = _
  rw [h]
  rfl
theorem short_cons {s : Shelf} {n : Nat} {c0 : List (List Int)} {rest : List (List (List Int))} {c : Call} (h : Si81Neutral.step s (PySi81.whole c0) = ((Si81.step s c).1, ansN (Si81.step s c).2)) (hs : Si81Neutral.short s n ((c0 :: rest).map PySi81.whole) = true) :
    (ansN (Si81.step s c).2).length ≤ n ∧ Si81Neutral.short (Si81.step s c).1 (n - (ansN (Si81.step s c).2).length) (rest.map PySi81.whole) = true := by
  rw [List.map_cons] at hs
  have hs' : (decide ((Si81Neutral.step s (PySi81.whole c0)).2.length ≤ n) && Si81Neutral.short (Si81Neutral.step s (PySi81.whole c0)).1 (n - (Si81Neutral.step s (PySi81.whole c0)).2.length) (rest.map PySi81.whole)) = true := hs
  rw [h, Bool.and_eq_true] at hs'
  exact ⟨of_decide_eq_true hs'.1, hs'.2⟩
/-- what is asked of the list, for the loop's start -/
theorem asked_start {ns : List Int} (h : PySi81.answers_asked ns = true) : ∃ cs, PyFlat.calls PySi81.shape ns.length (ns.drop 0) = some cs ∧ cs.length ≤ 60 ∧ ((cs.map PySi81.whole).all Si81Neutral.asked1) = true ∧ Si81Neutral.short init 999999 (cs.map PySi81.whole) = true ∧
    PySi81.answers ns = PyFlat.told (PyFlat.played Si81Neutral.step init (cs.map PySi81.whole)) := by
  unfold PySi81.answers_asked at h
  cases e : PySi81.calls ns with
  | none => rw [e] at h; cases h
  | some ds =>
    rw [e] at h
    have h : (PyFlat.atMost 60 ds && Si81Neutral.asked ds) = true := h
    rw [Bool.and_eq_true] at h
    unfold PySi81.calls at e
    cases e2 : PyFlat.calls PySi81.shape ns.length ns with
    | none => rw [e2] at e; cases e
    | some cs =>
      rw [e2] at e
      have e3 : cs.map PySi81.whole = ds := Option.some.inj e
      subst e3
      have h2 := h.2
      unfold Si81Neutral.asked at h2
      rw [Bool.and_eq_true, Bool.and_eq_true, Bool.and_eq_true, Bool.and_eq_true] at h2
      refine ⟨cs, e2, ?_, h2.1, h2.2.2.2.2, ?_⟩
      · have := of_decide_eq_true h2.2.2.1
        rw [List.length_map] at this
        exact this
      · unfold PySi81.answers PySi81.calls
        rw [e2]
        rfl
theorem calls_nil {fuel : Nat} {rest : List (List (List Int))} (h : PyFlat.calls PySi81.shape fuel [] = some rest) : rest = [] := by
  cases fuel <;> exact (Option.some.inj h).symm
end Sm
end
section
set_option Elab.async false
set_option linter.all false
namespace Sm
open Si81
/-! ### all formulas, grown at the end -/
def grow (m : Nat) (b : List (List Nat)) : List (List Nat) := b.flatMap fun f => (List.range (m + 1)).map fun d => f ++ [d]
theorem rows_snoc (m : Nat) : ∀ l : List Nat, rows (l ++ [m]) = grow m (rows l)
  | [] => by
    show (List.range (m + 1)).flatMap (fun t => [[t]]) = grow m [[]]
    unfold grow
    rw [List.flatMap_singleton]
    induction (List.range (m + 1)) with
    | nil => rfl
    | cons a r ih => rw [List.flatMap_cons, ih, List.map_cons]; rfl
  | n :: r => by
    show (List.range (n + 1)).flatMap (fun t => (rows (r ++ [m])).map fun l => t :: l) = grow m ((List.range (n + 1)).flatMap fun t => (rows r).map fun l => t :: l)
    rw [rows_snoc m r]
    unfold grow
    rw [List.flatMap_assoc]
    congr 1
    funext t
    rw [List.map_flatMap, List.flatMap_map]
    congr 1
    funext f
    rw [List.map_map]
    rfl
theorem flat_len {α β : Type} (g : α → List β) (c : Nat) : ∀ l : List α, (∀ a ∈ l, (g a).length = c) → (l.flatMap g).length = l.length * c
  | [], _ => by simp
  | a :: l, h => by
    rw [List.flatMap_cons, List.length_append, h a (.head _), flat_len g c l (fun b hb => h b (.tail _ hb)), List.length_cons, Nat.succ_mul, Nat.add_comm]
theorem rows_length : ∀ l : List Nat, (∀ x ∈ l, x ≤ 5) → (rows l).length ≤ 6 ^ l.length
  | [], _ => by decide
  | n :: r, h => by
    have e : (rows (n :: r)).length = (n + 1) * (rows r).length := by
      show ((List.range (n + 1)).flatMap fun t => (rows r).map fun l => t :: l).length = _
      rw [flat_len _ (rows r).length _ (fun t _ => List.length_map _), List.length_range]
    rw [e, List.length_cons, Nat.pow_succ, Nat.mul_comm]
    exact Nat.mul_le_mul (rows_length r fun x hx => h x (.tail _ hx)) (by have := h n (.head _); omega)
theorem rows_each : ∀ (l f : List Nat), f ∈ rows l → f.length = l.length
  | [], f, h => by
    have : f ∈ [([] : List Nat)] := h
    rw [List.mem_singleton.mp this]
  | n :: r, f, h => by
    obtain ⟨t, _, h2⟩ := List.mem_flatMap.mp (show f ∈ (List.range (n + 1)).flatMap fun t => (rows r).map fun l => t :: l from h)
    obtain ⟨g, hg, rfl⟩ := List.mem_map.mp h2
    rw [List.length_cons, List.length_cons, rows_each r g hg]
/-- the rows over the first i materials -/
def rowsTo (s : Shelf) (i : Nat) : List (List Nat) := rows ((s.materials.map fun m => m.most).take i)
theorem rowsTo_zero (s : Shelf) : rowsTo s 0 = [[]] := rfl
theorem rowsTo_succ {s : Shelf} {i : Nat} {m : Material} (h : s.materials[i]? = some m) : rowsTo s (i + 1) = grow m.most (rowsTo s i) := by
  unfold rowsTo
  have e : (s.materials.map fun m => m.most)[i]? = some m.most := by rw [List.getElem?_map, h]; rfl
  rw [List.take_add_one, e, ← rows_snoc]
  rfl
theorem rowsTo_all (s : Shelf) : rowsTo s s.count = rows (s.materials.map fun m => m.most) := by
  unfold rowsTo Shelf.count
  rw [List.take_of_length_le (by rw [List.length_map]; exact Nat.le_refl _)]
theorem formulas_eq (s : Shelf) : s.formulas = (rowsTo s s.count).filter s.right := by rw [rowsTo_all]; rfl
theorem rowsTo_len {s : Shelf} (g : Good s) (i : Nat) : (rowsTo s i).length ≤ 1296 := by
  unfold rowsTo
  refine Nat.le_trans (rows_length _ fun x hx => ?_) ?_
  · obtain ⟨m, hm, rfl⟩ := List.mem_map.mp (List.mem_of_mem_take hx)
    exact (g.mat m hm).2.2.2.2
  · have h : ((s.materials.map fun m => m.most).take i).length ≤ 4 := by
      rw [List.length_take, List.length_map]
      have := g.few
      omega
    exact Nat.le_trans (Nat.pow_le_pow_right (by decide) h) (by decide)
theorem rowsTo_each {s : Shelf} {i : Nat} {f : List Nat} (h : f ∈ rowsTo s i) : f.length ≤ s.count := by
  have := rows_each _ _ h
  rw [List.length_take, List.length_map] at this
  have : f.length ≤ s.materials.length := by omega
  exact this
theorem rowsTo_full {s : Shelf} {f : List Nat} (h : f ∈ rowsTo s s.count) : f.length = s.count := by
  rw [rowsTo_all] at h
  have := rows_each _ _ h
  rw [List.length_map] at this
  exact this
theorem formulas_len {s : Shelf} (g : Good s) : s.formulas.length ≤ 1296 := by
  rw [formulas_eq]
  exact Nat.le_trans (List.length_filter_le _ _) (rowsTo_len g _)
theorem formulas_right {s : Shelf} {f : List Nat} (h : f ∈ s.formulas) : s.right f = true := by
  rw [formulas_eq] at h
  exact (List.mem_filter.mp h).2
theorem right_len {s : Shelf} {f : List Nat} (h : s.right f = true) : f.length = s.count := by
  unfold Shelf.right at h
  rw [Bool.and_eq_true] at h
  exact beq_iff_eq.mp h.1
/-! ### the best of some formulas -/
def stepF (s : Shelf) (r : Option Best) (l : List Nat) : Option Best := match r with
  | none => some ⟨s.shortest l, l.sum, 1, l⟩
  | some x => if (decide (l.sum < x.drops)) = true then some ⟨s.shortest l, l.sum, 1, l⟩ else if (l.sum == x.drops) = true then some { x with many := x.many + 1 } else some x
theorem fewest_eq (s : Shelf) (o : List Nat) : s.fewest o = (s.ordered o).foldl (stepF s) none := rfl
structure BestF (s : Shelf) (p : List (List Nat)) (x : Best) : Prop where
  sh : x.shortest = s.shortest x.row
  dr : x.drops = x.row.sum
  low : ∀ l ∈ p, x.drops ≤ l.sum
  fil : ∃ t, p.filter (fun l => l.sum == x.drops) = x.row :: t ∧ x.many = t.length + 1
def RelF (s : Shelf) (p : List (List Nat)) : Option Best → Prop
  | none => p = []
  | some x => BestF s p x
theorem filter_none {α : Type} {q : α → Bool} {l : List α} (h : ∀ a ∈ l, q a = false) : l.filter q = [] := by
  rw [List.filter_eq_nil_iff]
  intro a ha e
  rw [h a ha] at e
  cases e
theorem relF_step {s : Shelf} {p : List (List Nat)} {r : Option Best} (l : List Nat) (h : RelF s p r) : RelF s (p ++ [l]) (stepF s r l) := by
  cases r with
  | none =>
    have e : p = [] := h
    subst e
    refine ⟨rfl, rfl, fun k hk => ?_, [], ?_, rfl⟩
    · rw [List.mem_singleton.mp hk]; exact Nat.le_refl _
    · show ([l].filter fun k => k.sum == l.sum) = [l]
      rw [List.filter_cons, if_pos (beq_self_eq_true _)]
      rfl
  | some x =>
    have b : BestF s p x := h
    obtain ⟨t, ht, hm⟩ := b.fil
    show RelF s (p ++ [l]) (if (decide (l.sum < x.drops)) = true then some ⟨s.shortest l, l.sum, 1, l⟩ else if (l.sum == x.drops) = true then some { x with many := x.many + 1 } else some x)
    by_cases c : l.sum < x.drops
    · rw [if_pos (decide_eq_true c)]
      refine ⟨rfl, rfl, fun k hk => ?_, [], ?_, rfl⟩
      · rcases List.mem_append.mp hk with hk | hk
        · have := b.low k hk
          show l.sum ≤ k.sum
          omega
        · rw [List.mem_singleton.mp hk]; exact Nat.le_refl _
      · show ((p ++ [l]).filter fun k => k.sum == l.sum) = [l]
        rw [List.filter_append, filter_none (l := p), List.filter_cons, if_pos (beq_self_eq_true _)]
        · rfl
        · intro k hk
          have := b.low k hk
          exact beq_eq_false_iff_ne.mpr (by omega)
    · rw [if_neg (by intro z; exact c (of_decide_eq_true z))]
      by_cases d : l.sum = x.drops
      · rw [if_pos (beq_iff_eq.mpr d)]
        refine ⟨b.sh, b.dr, fun k hk => ?_, t ++ [l], ?_, ?_⟩
        · rcases List.mem_append.mp hk with hk | hk
          · exact b.low k hk
          · rw [List.mem_singleton.mp hk]; show x.drops ≤ _; omega
        · show ((p ++ [l]).filter fun k => k.sum == x.drops) = x.row :: (t ++ [l])
          rw [List.filter_append, ht, List.filter_cons, if_pos (beq_iff_eq.mpr d)]
          rfl
        · show x.many + 1 = (t ++ [l]).length + 1
          rw [List.length_append, hm]
          rfl
      · rw [if_neg (by intro z; exact d (beq_iff_eq.mp z))]
        refine ⟨b.sh, b.dr, fun k hk => ?_, t, ?_, hm⟩
        · rcases List.mem_append.mp hk with hk | hk
          · exact b.low k hk
          · rw [List.mem_singleton.mp hk]; omega
        · rw [List.filter_append, ht, List.filter_cons, if_neg (by intro z; exact d (beq_iff_eq.mp z))]
          exact List.append_nil _
theorem relF_go {s : Shelf} : ∀ (q p : List (List Nat)) (r : Option Best), RelF s p r → RelF s (p ++ q) (q.foldl (stepF s) r)
  | [], p, r, h => by rw [List.append_nil]; exact h
  | l :: q, p, r, h => by
    rw [List.foldl_cons]
    have := relF_go q (p ++ [l]) _ (relF_step l h)
    rw [List.append_assoc] at this
    exact this
theorem fewest_rel (s : Shelf) (o : List Nat) : RelF s (s.ordered o) (s.fewest o) := relF_go (s.ordered o) [] none rfl
/-! most even, of those the fewest drops -/
def stepE (s : Shelf) (r : Option Best) (l : List Nat) : Option Best := match r with
  | none => some ⟨s.shortest l, l.sum, 1, l⟩
  | some x => if (decide (x.shortest < s.shortest l) || (x.shortest == s.shortest l && decide (l.sum < x.drops))) = true then some ⟨s.shortest l, l.sum, 1, l⟩ else if (x.shortest == s.shortest l && l.sum == x.drops) = true then some { x with many := x.many + 1 } else some x
theorem even_eq (s : Shelf) (o : List Nat) : s.even o = (s.ordered o).foldl (stepE s) none := rfl
def evenOf (s : Shelf) (e : Nat) (p : List (List Nat)) : List (List Nat) := p.filter fun l => s.shortest l == e
def sumOf (d : Nat) (p : List (List Nat)) : List (List Nat) := p.filter fun l => l.sum == d
structure BestE (s : Shelf) (p : List (List Nat)) (x : Best) : Prop where
  sh : x.shortest = s.shortest x.row
  dr : x.drops = x.row.sum
  up : ∀ l ∈ p, s.shortest l ≤ x.shortest
  low : ∀ l ∈ p, s.shortest l = x.shortest → x.drops ≤ l.sum
  fil : ∃ t, sumOf x.drops (evenOf s x.shortest p) = x.row :: t ∧ x.many = t.length + 1
def RelE (s : Shelf) (p : List (List Nat)) : Option Best → Prop
  | none => p = []
  | some x => BestE s p x
theorem se_app (s : Shelf) (d e : Nat) (p q : List (List Nat)) : sumOf d (evenOf s e (p ++ q)) = sumOf d (evenOf s e p) ++ sumOf d (evenOf s e q) := by
  unfold sumOf evenOf
  rw [List.filter_append, List.filter_append]
theorem se_one {s : Shelf} {d e : Nat} {l : List Nat} (h1 : s.shortest l = e) (h2 : l.sum = d) : sumOf d (evenOf s e [l]) = [l] := by
  unfold sumOf evenOf
  rw [List.filter_cons, if_pos (beq_iff_eq.mpr h1), List.filter_nil, List.filter_cons, if_pos (beq_iff_eq.mpr h2), List.filter_nil]
theorem se_none {s : Shelf} {d e : Nat} {p : List (List Nat)} (h : ∀ l ∈ p, s.shortest l = e → l.sum ≠ d) : sumOf d (evenOf s e p) = [] := by
  unfold sumOf evenOf
  refine filter_none fun l hl => ?_
  obtain ⟨h1, h2⟩ := List.mem_filter.mp hl
  exact beq_eq_false_iff_ne.mpr (h l h1 (beq_iff_eq.mp h2))
theorem relE_step {s : Shelf} {p : List (List Nat)} {r : Option Best} (l : List Nat) (h : RelE s p r) : RelE s (p ++ [l]) (stepE s r l) := by
  cases r with
  | none =>
    have e : p = [] := h
    subst e
    refine ⟨rfl, rfl, fun k hk => ?_, fun k hk _ => ?_, [], se_one rfl rfl, rfl⟩
    · rw [List.mem_singleton.mp hk]; exact Nat.le_refl _
    · rw [List.mem_singleton.mp hk]; exact Nat.le_refl _
  | some x =>
    have b : BestE s p x := h
    obtain ⟨t, ht, hm⟩ := b.fil
    show RelE s (p ++ [l]) (if (decide (x.shortest < s.shortest l) || (x.shortest == s.shortest l && decide (l.sum < x.drops))) = true then some ⟨s.shortest l, l.sum, 1, l⟩ else if (x.shortest == s.shortest l && l.sum == x.drops) = true then some { x with many := x.many + 1 } else some x)
    by_cases c : x.shortest < s.shortest l ∨ (x.shortest = s.shortest l ∧ l.sum < x.drops)
    · have c' : (decide (x.shortest < s.shortest l) || (x.shortest == s.shortest l && decide (l.sum < x.drops))) = true := by simpa using c
      rw [if_pos c']
      refine ⟨rfl, rfl, fun k hk => ?_, fun k hk e => ?_, [], ?_, rfl⟩
      · rcases List.mem_append.mp hk with hk | hk
        · have := b.up k hk
          show s.shortest k ≤ s.shortest l
          omega
        · rw [List.mem_singleton.mp hk]; exact Nat.le_refl _
      · rcases List.mem_append.mp hk with hk | hk
        · have h1 := b.up k hk
          have h2 := b.low k hk
          have e' : s.shortest k = s.shortest l := e
          show l.sum ≤ k.sum
          omega
        · rw [List.mem_singleton.mp hk]; exact Nat.le_refl _
      · show sumOf l.sum (evenOf s (s.shortest l) (p ++ [l])) = [l]
        rw [se_app, se_one rfl rfl, se_none]
        · rfl
        · intro k hk e
          have h1 := b.up k hk
          have h2 := b.low k hk
          omega
    · have c' : ¬ (decide (x.shortest < s.shortest l) || (x.shortest == s.shortest l && decide (l.sum < x.drops))) = true := by
        intro z
        apply c
        simpa using z
      rw [if_neg c']
      by_cases d : x.shortest = s.shortest l ∧ l.sum = x.drops
      · have d' : (x.shortest == s.shortest l && l.sum == x.drops) = true := by simpa using d
        rw [if_pos d']
        refine ⟨b.sh, b.dr, fun k hk => ?_, fun k hk e => ?_, t ++ [l], ?_, ?_⟩
        · rcases List.mem_append.mp hk with hk | hk
          · exact b.up k hk
          · rw [List.mem_singleton.mp hk]; show _ ≤ x.shortest; omega
        · rcases List.mem_append.mp hk with hk | hk
          · exact b.low k hk e
          · rw [List.mem_singleton.mp hk]; show x.drops ≤ _; omega
        · show sumOf x.drops (evenOf s x.shortest (p ++ [l])) = x.row :: (t ++ [l])
          rw [se_app, ht, se_one d.1.symm d.2]
          rfl
        · show x.many + 1 = (t ++ [l]).length + 1
          rw [List.length_append, hm]
          rfl
      · have d' : ¬ (x.shortest == s.shortest l && l.sum == x.drops) = true := by
          intro z
          apply d
          simpa using z
        rw [if_neg d']
        refine ⟨b.sh, b.dr, fun k hk => ?_, fun k hk e => ?_, t, ?_, hm⟩
        · rcases List.mem_append.mp hk with hk | hk
          · exact b.up k hk
          · rw [List.mem_singleton.mp hk]; omega
        · rcases List.mem_append.mp hk with hk | hk
          · exact b.low k hk e
          · rw [List.mem_singleton.mp hk] at e ⊢; omega
        · rw [se_app, ht, se_none (p := [l])]
          · exact List.append_nil _
          · intro k hk e z
            rw [List.mem_singleton.mp hk] at e z
            exact d ⟨e.symm, z⟩
theorem relE_go {s : Shelf} : ∀ (q p : List (List Nat)) (r : Option Best), RelE s p r → RelE s (p ++ q) (q.foldl (stepE s) r)
  | [], p, r, h => by rw [List.append_nil]; exact h
  | l :: q, p, r, h => by
    rw [List.foldl_cons]
    have := relE_go q (p ++ [l]) _ (relE_step l h)
    rw [List.append_assoc] at this
    exact this
theorem even_rel (s : Shelf) (o : List Nat) : RelE s (s.ordered o) (s.even o) := relE_go (s.ordered o) [] none rfl
/-! ### an order as it is told -/
theorem once_count : ∀ (o : List Nat), once o = true → ∀ n, o.count n ≤ 1
  | [], _, n => by simp
  | i :: l, h, n => by
    have h' : (!l.contains i && once l) = true := h
    rw [Bool.and_eq_true] at h'
    have ih := once_count l h'.2 n
    have hi : i ∉ l := by
      intro z
      have := h'.1
      rw [List.contains_iff_mem.mpr z] at this
      cases this
    rw [List.count_cons]
    by_cases e : i = n
    · subst e
      rw [List.count_eq_zero.mpr hi, if_pos (beq_self_eq_true _)]
      exact Nat.le_refl _
    · rw [if_neg (by intro z; exact e (beq_iff_eq.mp z))]
      exact ih
theorem twice_count : ∀ (o : List Nat), once o = false → ∃ n, n ∈ o ∧ 1 < o.count n
  | [], h => by cases h
  | i :: l, h => by
    have h' : (!l.contains i && once l) = false := h
    by_cases c : i ∈ l
    · refine ⟨i, .head _, ?_⟩
      have := List.count_pos_iff.mpr c
      rw [List.count_cons, if_pos (beq_self_eq_true _)]
      omega
    · have hc : l.contains i = false := by
        cases z : l.contains i with
        | false => rfl
        | true => exact absurd (List.contains_iff_mem.mp z) c
      rw [hc] at h'
      obtain ⟨n, h1, h2⟩ := twice_count l h'
      refine ⟨n, .tail _ h1, ?_⟩
      rw [List.count_cons]
      omega
theorem count_ints (n : Nat) : ∀ o : List Nat, (Si81.ints o).count (n : Int) = o.count n
  | [] => rfl
  | i :: l => by
    show ((i : Int) :: Si81.ints l).count (n : Int) = _
    rw [List.count_cons, List.count_cons, count_ints n l]
    by_cases e : i = n
    · rw [if_pos (beq_iff_eq.mpr (by omega)), if_pos (beq_iff_eq.mpr e)]
    · rw [if_neg (by intro z; have := beq_iff_eq.mp z; omega), if_neg (by intro z; exact e (beq_iff_eq.mp z))]
theorem once_any (o : List Nat) : (o.any fun n => decide (1 < o.count n)) = !once o := by
  cases h : once o with
  | true =>
    rw [List.any_eq_false.mpr]
    · rfl
    · intro n hn z
      have := once_count o h n
      have := of_decide_eq_true z
      omega
  | false =>
    obtain ⟨n, h1, h2⟩ := twice_count o h
    rw [List.any_eq_true.mpr ⟨n, h1, decide_eq_true h2⟩]
    rfl
end Sm
end
section
set_option Elab.async false
set_option linter.all false
namespace Sm
open Si81
/-! ### orders, sorted and each once -/
abbrev LN := List Nat
theorem ln_tri (a b : LN) (h1 : ¬ a < b) (h2 : ¬ b < a) : a = b := List.le_antisymm (List.not_lt.mp h2) (List.not_lt.mp h1)
theorem ln_trans {a b c : LN} (h1 : a < b) (h2 : b < c) : a < c := List.lt_trans h1 h2
theorem ln_irr (a : LN) : ¬ a < a := List.lt_irrefl a
/-- each ahead of those behind it -/
def Up (l : List LN) : Prop := l.Pairwise (fun a b => a < b)
theorem mem_insertOnce (x y : LN) : ∀ l : List LN, y ∈ insertOnce x l ↔ y = x ∨ y ∈ l
  | [] => by
    show y ∈ [x] ↔ _
    simp
  | z :: l => by
    show y ∈ (if x = z then z :: l else if (decide (x < z)) = true then x :: z :: l else z :: insertOnce x l) ↔ _
    by_cases c : x = z
    · rw [if_pos c]
      subst c
      simp
    · rw [if_neg c]
      by_cases d : x < z
      · rw [if_pos (decide_eq_true d)]
        simp
      · rw [if_neg (by intro e; exact d (of_decide_eq_true e))]
        rw [List.mem_cons, mem_insertOnce x y l, List.mem_cons]
        constructor
        · rintro (h | h | h)
          · exact .inr (.inl h)
          · exact .inl h
          · exact .inr (.inr h)
        · rintro (h | h | h)
          · exact .inr (.inl h)
          · exact .inl h
          · exact .inr (.inr h)
theorem up_insertOnce (x : LN) : ∀ l : List LN, Up l → Up (insertOnce x l)
  | [], _ => by
    show Up [x]
    exact List.pairwise_singleton _ _
  | z :: l, h => by
    obtain ⟨h1, h2⟩ := List.pairwise_cons.mp h
    show Up (if x = z then z :: l else if (decide (x < z)) = true then x :: z :: l else z :: insertOnce x l)
    by_cases c : x = z
    · rw [if_pos c]
      exact h
    · rw [if_neg c]
      by_cases d : x < z
      · rw [if_pos (decide_eq_true d)]
        refine List.pairwise_cons.mpr ⟨fun y hy => ?_, h⟩
        rcases List.mem_cons.mp hy with e | hy
        · rw [e]; exact d
        · exact ln_trans d (h1 y hy)
      · rw [if_neg (by intro e; exact d (of_decide_eq_true e))]
        refine List.pairwise_cons.mpr ⟨fun y hy => ?_, up_insertOnce x l h2⟩
        rcases (mem_insertOnce x y l).mp hy with e | hy
        · rw [e]
          by_cases f : z < x
          · exact f
          · exact absurd (ln_tri x z d f) c
        · exact h1 y hy
theorem orders_go (s : Shelf) : ∀ (p : List LN) (r : List LN), Up r → Up (p.foldl (fun r l => insertOnce (s.order l) r) r) ∧ ∀ y, y ∈ p.foldl (fun r l => insertOnce (s.order l) r) r ↔ y ∈ r ∨ y ∈ p.map s.order
  | [], r, h => ⟨h, fun y => by simp⟩
  | l :: p, r, h => by
    rw [List.foldl_cons]
    obtain ⟨h1, h2⟩ := orders_go s p _ (up_insertOnce (s.order l) r h)
    refine ⟨h1, fun y => ?_⟩
    rw [h2 y, mem_insertOnce, List.map_cons, List.mem_cons]
    constructor
    · rintro ((h | h) | h)
      · exact .inr (.inl h)
      · exact .inl h
      · exact .inr (.inr h)
    · rintro (h | h | h)
      · exact .inl (.inr h)
      · exact .inl (.inl h)
      · exact .inr h
theorem orders_up (s : Shelf) : Up s.orders ∧ ∀ y, y ∈ s.orders ↔ y ∈ s.formulas.map s.order := by
  obtain ⟨h1, h2⟩ := orders_go s s.formulas [] List.Pairwise.nil
  refine ⟨h1, fun y => (h2 y).trans ?_⟩
  simp
/-- none but new ones are put behind -/
def addNew (d : List LN) (o : LN) : List LN := if o ∈ d then d else d ++ [o]
def newTo (l : List LN) (i : Nat) : List LN := (l.take i).foldl addNew []
theorem newTo_zero (l : List LN) : newTo l 0 = [] := rfl
theorem newTo_succ {l : List LN} {i : Nat} {o : LN} (h : l[i]? = some o) : newTo l (i + 1) = addNew (newTo l i) o := by
  unfold newTo
  rw [List.take_add_one, h, List.foldl_append]
  rfl
theorem addNew_len (d : List LN) (o : LN) : (addNew d o).length ≤ d.length + 1 := by
  unfold addNew
  by_cases c : o ∈ d
  · rw [if_pos c]; omega
  · rw [if_neg c, List.length_append]; exact Nat.le_refl _
theorem newTo_len (l : List LN) : ∀ i, i ≤ l.length → (newTo l i).length ≤ i
  | 0, _ => Nat.le_refl _
  | i + 1, h => by
    obtain ⟨o, ho⟩ : ∃ o, l[i]? = some o := ⟨_, List.getElem?_eq_getElem (by omega)⟩
    rw [newTo_succ ho]
    have h1 := addNew_len (newTo l i) o
    have h2 := newTo_len l i (by omega)
    omega
theorem newTo_mem {l : List LN} : ∀ (i : Nat) (y : LN), i ≤ l.length → (y ∈ newTo l i ↔ y ∈ l.take i)
  | 0, y, _ => by rw [newTo_zero, List.take_zero]
  | i + 1, y, h => by
    obtain ⟨o, ho⟩ : ∃ o, l[i]? = some o := ⟨_, List.getElem?_eq_getElem (by omega)⟩
    have ih := newTo_mem (l := l) i
    rw [newTo_succ ho, List.take_add_one, ho]
    unfold addNew
    by_cases c : o ∈ newTo l i
    · rw [if_pos c, ih y (by omega)]
      have c' := (ih o (by omega)).mp c
      simp only [List.mem_append, Option.toList_some, List.mem_singleton]
      constructor
      · exact .inl
      · rintro (h | h)
        · exact h
        · rw [h]; exact c'
    · rw [if_neg c, List.mem_append, List.mem_append, ih y (by omega)]
      rfl
theorem newTo_up {l : List LN} (hs : l.Pairwise fun a b => ¬ b < a) : ∀ i, i ≤ l.length → Up (newTo l i)
  | 0, _ => List.Pairwise.nil
  | i + 1, h => by
    obtain ⟨o, ho⟩ : ∃ o, l[i]? = some o := ⟨_, List.getElem?_eq_getElem (by omega)⟩
    have ih := newTo_up hs i (by omega)
    rw [newTo_succ ho]
    unfold addNew
    by_cases c : o ∈ newTo l i
    · rw [if_pos c]; exact ih
    · rw [if_neg c]
      refine List.pairwise_append.mpr ⟨ih, List.pairwise_singleton _ _, fun a ha b hb => ?_⟩
      have eb := List.mem_singleton.mp hb
      subst eb
      have ha' := (newTo_mem i a (by omega)).mp ha
      have hle : ¬ b < a := by
        have hsp : l = l.take i ++ (b :: l.drop (i + 1)) := by
          have hlt : i < l.length := by omega
          have eb : l[i] = b := by
            have z := List.getElem?_eq_getElem hlt
            rw [ho] at z
            exact (Option.some.inj z).symm
          have h3 := List.take_append_drop i l
          rw [← List.getElem_cons_drop hlt, eb] at h3
          exact h3.symm
        rw [hsp] at hs
        exact (List.pairwise_append.mp hs).2.2 a ha' b (.head _)
      by_cases f : a < b
      · exact f
      · exact absurd (by rw [← ln_tri a b f hle]; exact ha) c
theorem up_unique : ∀ (a b : List LN), Up a → Up b → (∀ y, y ∈ a ↔ y ∈ b) → a = b
  | [], [], _, _, _ => rfl
  | [], y :: b, _, _, h => by have := (h y).mpr (.head _); cases this
  | x :: a, [], _, _, h => by have := (h x).mp (.head _); cases this
  | x :: a, y :: b, ha, hb, h => by
    obtain ⟨a1, a2⟩ := List.pairwise_cons.mp ha
    obtain ⟨b1, b2⟩ := List.pairwise_cons.mp hb
    have e : x = y := by
      rcases List.mem_cons.mp ((h x).mp (.head _)) with e | hx
      · exact e
      · rcases List.mem_cons.mp ((h y).mpr (.head _)) with e | hy
        · exact e.symm
        · exact absurd (ln_trans (a1 y hy) (b1 x hx)) (ln_irr x)
    subst e
    congr 1
    refine up_unique a b a2 b2 fun z => ?_
    constructor
    · intro hz
      rcases List.mem_cons.mp ((h z).mp (.tail _ hz)) with e | hz'
      · rw [e] at hz; exact absurd (a1 x hz) (ln_irr x)
      · exact hz'
    · intro hz
      rcases List.mem_cons.mp ((h z).mpr (.tail _ hz)) with e | hz'
      · rw [e] at hz; exact absurd (b1 x hz) (ln_irr x)
      · exact hz'
theorem orders_new {s : Shelf} {l : List LN} (hp : l.Perm (s.formulas.map s.order)) (hs : l.Pairwise fun a b => ¬ b < a) : newTo l l.length = s.orders := by
  obtain ⟨h1, h2⟩ := orders_up s
  refine up_unique _ _ (newTo_up hs _ (Nat.le_refl _)) h1 fun y => ?_
  rw [newTo_mem _ _ (Nat.le_refl _), List.take_length, h2 y]
  exact hp.mem_iff
/-- the orders told, each behind its length -/
def toldTo (l : List LN) (i : Nat) : List Nat := (l.take i).flatMap fun o => o.length :: o
theorem toldTo_zero (l : List LN) : toldTo l 0 = [] := rfl
theorem toldTo_succ {l : List LN} {i : Nat} {o : LN} (h : l[i]? = some o) : toldTo l (i + 1) = toldTo l i ++ (o.length :: o) := by
  unfold toldTo
  rw [List.take_add_one, h, List.flatMap_append]
  congr 1
  exact List.append_nil _
theorem toldTo_all (l : List LN) : toldTo l l.length = l.flatMap fun o => o.length :: o := by
  unfold toldTo
  rw [List.take_length]
theorem toldTo_len {l : List LN} {c : Nat} (h : ∀ o ∈ l, o.length ≤ c) : ∀ i, i ≤ l.length → (toldTo l i).length ≤ i * (c + 1)
  | 0, _ => Nat.zero_le _
  | i + 1, hi => by
    obtain ⟨o, ho⟩ : ∃ o, l[i]? = some o := ⟨_, List.getElem?_eq_getElem (by omega)⟩
    rw [toldTo_succ ho, List.length_append, List.length_cons, Nat.succ_mul]
    have h1 := toldTo_len h i (by omega)
    have h2 := h o (List.mem_of_getElem? ho)
    omega
/-! ### every other one -/
def evens {α : Type} : List α → List α
  | [] => []
  | [a] => [a]
  | a :: _ :: r => a :: evens r
def odds {α : Type} : List α → List α
  | [] => []
  | [_] => []
  | _ :: b :: r => b :: odds r
theorem evens_flat2 : ∀ r : List (Nat × Nat), evens (flat2 r) = r.map fun x => x.1
  | [] => rfl
  | p :: r => by
    show p.1 :: evens (flat2 r) = _
    rw [evens_flat2 r]
    rfl
theorem odds_flat2 : ∀ r : List (Nat × Nat), odds (flat2 r) = r.map fun x => x.2
  | [] => rfl
  | p :: r => by
    show p.2 :: odds (flat2 r) = _
    rw [odds_flat2 r]
    rfl
theorem evens_map {α β : Type} (f : α → β) : ∀ l : List α, evens (l.map f) = (evens l).map f
  | [] => rfl
  | [_] => rfl
  | a :: b :: r => by
    show f a :: evens (r.map f) = _
    rw [evens_map f r]
    rfl
theorem odds_map {α β : Type} (f : α → β) : ∀ l : List α, odds (l.map f) = (odds l).map f
  | [] => rfl
  | [_] => rfl
  | a :: b :: r => by
    show f b :: odds (r.map f) = _
    rw [odds_map f r]
    rfl
theorem evens_len {α : Type} : ∀ l : List α, (evens l).length ≤ l.length
  | [] => Nat.le_refl _
  | [_] => Nat.le_refl _
  | a :: b :: r => by
    show (evens r).length + 1 ≤ r.length + 1 + 1
    have := evens_len r
    omega
theorem odds_len {α : Type} : ∀ l : List α, (odds l).length ≤ l.length
  | [] => Nat.le_refl _
  | [_] => Nat.zero_le _
  | a :: b :: r => by
    show (odds r).length + 1 ≤ r.length + 1 + 1
    have := odds_len r
    omega
/-- the shortest, as the least of what is there -/
theorem shortest_min {s : Shelf} {f : List Nat} {m : Int} (h : m ∈ Si81.ints ((s.course f).map fun x => x.2)) (h2 : ∀ z, z ∈ Si81.ints ((s.course f).map fun x => x.2) → m ≤ z) : m = (s.shortest f : Int) := by
  unfold Shelf.shortest
  cases e : (s.course f).map fun x => x.2 with
  | nil => rw [e] at h; cases h
  | cons n r =>
    rw [e] at h h2
    show m = ((r.foldl min n : Nat) : Int)
    have key : ∀ (r : List Nat) (n : Nat), r.foldl min n ∈ n :: r ∧ ∀ z ∈ n :: r, r.foldl min n ≤ z := by
      intro r
      induction r with
      | nil => intro n; exact ⟨.head _, fun z hz => by rw [List.mem_singleton.mp hz]; exact Nat.le_refl _⟩
      | cons a r ih =>
        intro n
        obtain ⟨i1, i2⟩ := ih (min n a)
        rw [List.foldl_cons]
        have hm := i2 (min n a) (.head _)
        refine ⟨?_, fun z hz => ?_⟩
        · rcases List.mem_cons.mp i1 with e | e
          · rw [e]
            rcases Nat.le_total n a with q | q
            · rw [Nat.min_eq_left q]; exact .head _
            · rw [Nat.min_eq_right q]; exact .tail _ (.head _)
          · exact .tail _ (.tail _ e)
        · rcases List.mem_cons.mp hz with e | hz
          · omega
          · rcases List.mem_cons.mp hz with e | hz
            · omega
            · exact i2 z (.tail _ hz)
    obtain ⟨k1, k2⟩ := key r n
    obtain ⟨x, hx, hxe⟩ := List.mem_map.mp (show m ∈ (n :: r).map (fun (k : Nat) => (k : Int)) from h)
    have a1 := k2 x hx
    have a2 := h2 _ (List.mem_map.mpr ⟨_, k1, rfl⟩)
    have hxe' : (x : Int) = m := hxe
    omega
theorem shortest_nil {s : Shelf} {f : List Nat} (h : Si81.ints ((s.course f).map fun x => x.2) = []) : s.shortest f = 0 := by
  have e : (s.course f).map (fun x => x.2) = [] := by
    cases z : (s.course f).map (fun x => x.2) with
    | nil => rfl
    | cons a r => rw [z] at h; cases h
  unfold Shelf.shortest
  rw [e]
end Sm
end
section
set_option Elab.async false
set_option linter.all false
set_option maxRecDepth 100000
/-! max(xs, default=d) of a list of ints -/
namespace Sm
open PySem PySem.Spec PyProof.Rows L2
/-- the one keyword -/
abbrev dkw (d : Value) : List (Str × Value) := [("default", d)]
theorem mxd_args (a d : Value) : argsOk "max" ⟨[a], dkw d⟩ := by unfold argsOk; kernel_rfl
section
variable {prog : Program} {w : World} {A : Around} {R : Result → Shared → Prop} {it : Addr} {fp wr : List Addr} {n : Nat} {P : Nat → Value → Prop} {St : Nat → Heap → Prop} {d : Value}
/-- the loop, its best so far known -/
theorem mxd_go (W : Walks prog w A.in1 it fp wr n P St) (bt : Nat → Nat → Bool) (cmp : CmpOf prog w A.in1 .Gt P bt) (B : Addr) (nB : B ∉ fp) :
    ∀ (left j : Nat) (s : Shared) (v0 : Value) (c : Nat), j + 1 + left = n → St (j + 1) s.heap → P (argBest bt j) v0 →
    s.heap.get? B = some ⟨.type "list", none, .seq #[v0, v0] c, #[]⟩ →
    (∀ v h' tk, P (argBest bt (n - 1)) v → (∀ b o, b ∉ wr → b ≠ B → s.heap.get? b = some o → h'.get? b = some o) → R (.ok (.ret v)) { s with heap := h', toks := tk }) →
    codeAny (model prog w) A (.builtin "max.loop" ⟨[.ref it, .none, .ref B], dkw d⟩) R s := by
  have nBw : B ∉ wr := fun z => nB (W.sub _ z)
  have nm : (toString "max" ++ toString ".loop" : String) = "max.loop" := by decide
  intro left
  induction left with
  | zero =>
    intro j s v0 c e st p hB q
    have e1 : j + 1 = n := by omega
    refine codeAny_builtin PySem.F.entry_max_loop ?_
    rw [Around.under_plainId PySem.F.plain_max_loop _]
    show wpAny _ A.in1 (seqItems? (.ref B) >>= _) _ _ s
    refine wpAny_bind (wpAny_seqItems hB rfl ?_)
    show wpAny _ A.in1 (tryCatch (pyNext (.ref it)) _ >>= _) _ _ s
    refine wpAny_bind (wpAny_tryCatch (W.done s _ _ (e1 ▸ st) fun h1 tk k1 => ?_))
    have hB1 := k1 B _ nBw hB
    show wpAny _ A.in1 (updateSeq B (fun _ => #[]) >>= _) _ _ _
    refine wpAny_bind ?_
    refine wpAny_updateSeq hB1 rfl (wpAny_bind (wpAny_letGo (wpAny_pure ?_)))
    exact q v0 _ tk (by rw [← e1]; exact p) fun b o nb nb' z => (Heap.get?_update_other _ _ (Ne.symm nb')).trans (k1 b o nb z)
  | succ left ih =>
    intro j s v0 c e st p hB q
    have lt : j + 1 < n := by omega
    refine codeAny_builtin PySem.F.entry_max_loop ?_
    rw [Around.under_plainId PySem.F.plain_max_loop _]
    show wpAny _ A.in1 (seqItems? (.ref B) >>= _) _ _ s
    refine wpAny_bind (wpAny_seqItems hB rfl ?_)
    show wpAny _ A.in1 (tryCatch (pyNext (.ref it)) _ >>= _) _ _ s
    refine wpAny_bind (wpAny_tryCatch (W.item (j + 1) s _ _ lt st fun v h1 tk pv st1 k1 => ?_))
    have hB1 := k1 B _ nBw hB
    show wpAny _ A.in1 (tryCatch (holding [v, v] (richCompare .Gt v v0 >>= _)) _ >>= _) _ _ _
    refine wpAny_bind (wpAny_tryCatch (wpAny_holding (wpAny_bind (cmp (j + 1) (argBest bt j) v v0 _ _ _ pv p ?_))))
    refine wpAny_bind (wpAny_holding (wpAny_truthy_bool ?_))
    refine wpAny_bind (wpAny_letGo (wpAny_pure ?_))
    cases hb : bt (j + 1) (argBest bt j) with
    | true =>
      simp only [if_true]
      refine wpAny_bind ?_
      refine wpAny_updateSeq hB1 rfl (wpAny_bind (wpAny_letGo ?_))
      rw [nm]
      refine wpAny_pure ⟨plainId_quiet PySem.F.plain_max_loop _, ih (j + 1) _ v _ (by omega) (W.frame _ _ _ st1 fun b hbf o z => (Heap.get?_update_other _ _ (fun y : B = b => nB (by rw [y]; exact hbf))).trans z)
        (by simp only [argBest, hb, if_true]; exact pv) (Heap.get?_update_self _ hB1 rfl) fun v' h2 tk2 pv' k2 => ?_⟩
      exact q v' h2 tk2 pv' fun b o nb nb' z => k2 b o nb nb' ((Heap.get?_update_other _ _ (Ne.symm nb')).trans (k1 b o nb z))
    | false =>
      simp only [Bool.false_eq_true, if_false]
      refine wpAny_bind (wpAny_letGo ?_)
      rw [nm]
      refine wpAny_pure ⟨plainId_quiet PySem.F.plain_max_loop _, ih (j + 1) _ v0 c (by omega) st1 (by simp only [argBest, hb, Bool.false_eq_true, if_false]; exact p) hB1 fun v' h2 tk2 pv' k2 => ?_⟩
      exact q v' h2 tk2 pv' fun b o nb nb' z => k2 b o nb nb' (k1 b o nb z)
/-- the loop from its start: nothing there, or a best -/
theorem mxd_first (W : Walks prog w A.in1 it fp wr n P St) (bt : Nat → Nat → Bool) (cmp : CmpOf prog w A.in1 .Gt P bt) (B : Addr) (nB : B ∉ fp) {s : Shared} {c : Nat} (st : St 0 s.heap)
    (hB : s.heap.get? B = some ⟨.type "list", none, .seq #[] c, #[]⟩)
    (q0 : n = 0 → ∀ h' tk, (∀ b o, b ∉ wr → b ≠ B → s.heap.get? b = some o → h'.get? b = some o) → R (.ok (.ret d)) { s with heap := h', toks := tk })
    (q : 0 < n → ∀ v h' tk, P (argBest bt (n - 1)) v → (∀ b o, b ∉ wr → b ≠ B → s.heap.get? b = some o → h'.get? b = some o) → R (.ok (.ret v)) { s with heap := h', toks := tk }) :
    codeAny (model prog w) A (.builtin "max.loop" ⟨[.ref it, .none, .ref B], dkw d⟩) R s := by
  have nBw : B ∉ wr := fun z => nB (W.sub _ z)
  have nm : (toString "max" ++ toString ".loop" : String) = "max.loop" := by decide
  refine codeAny_builtin PySem.F.entry_max_loop ?_
  rw [Around.under_plainId PySem.F.plain_max_loop _]
  show wpAny _ A.in1 (seqItems? (.ref B) >>= _) _ _ s
  refine wpAny_bind (wpAny_seqItems hB rfl ?_)
  show wpAny _ A.in1 (tryCatch (pyNext (.ref it)) _ >>= _) _ _ s
  by_cases hn : n = 0
  · refine wpAny_bind (wpAny_tryCatch (W.done s _ _ (by rw [hn]; exact st) fun h1 tk k1 => ?_))
    show wpAny _ A.in1 (rule _ >>= _) _ _ _
    refine wpAny_bind (wpAny_rule (wpAny_pure ?_))
    exact q0 hn _ tk fun b o nb _ z => k1 b o nb z
  · have hp : 0 < n := Nat.pos_of_ne_zero hn
    refine wpAny_bind (wpAny_tryCatch (W.item 0 s _ _ hp st fun v h1 tk pv st1 k1 => ?_))
    have hB1 := k1 B _ nBw hB
    show wpAny _ A.in1 (updateSeq B (fun _ => #[v, v]) >>= _) _ _ _
    refine wpAny_bind ?_
    refine wpAny_updateSeq hB1 rfl ?_
    rw [nm]
    refine wpAny_pure ⟨plainId_quiet PySem.F.plain_max_loop _, mxd_go W bt cmp B nB (n - 1) 0 _ v _ (by omega) (W.frame _ _ _ st1 fun b hbf o z => (Heap.get?_update_other _ _ (fun y : B = b => nB (by rw [y]; exact hbf))).trans z) pv
      (Heap.get?_update_self _ hB1 rfl) fun v' h2 tk2 pv' k2 => ?_⟩
    exact q hp v' h2 tk2 pv' fun b o nb nb' z => k2 b o nb nb' ((Heap.get?_update_other _ _ (Ne.symm nb')).trans (k1 b o nb z))
end
section
variable {prog : Program} {w : World} {A : Around} {E : Value → Shared → Prop} {s : Shared} {l : Addr} {its : List Value} {ns : List Int} {Q : Value → Shared → Prop} {d : Value}
theorem mxd_raw (hh : A.handled = none) (hl : s.heap.IsList l its.toArray) (hi : IntsAre its ns)
    (h0 : ns = [] → ∀ h' tk, (∀ b o, s.heap.get? b = some o → h'.get? b = some o) → Q d { s with heap := h', toks := tk })
    (h : ∀ h' tk M t', (∀ b o, s.heap.get? b = some o → h'.get? b = some o) → M ∈ ns → (∀ a, a ∈ ns → a ≤ M) → Q (.int M t') { s with heap := h', toks := tk }) : wpAny (model prog w) A (call (.builtin "max") [.ref l] (dkw d)) Q E s := by
  obtain ⟨xs, e⟩ := hi.allInts.items
  have hn : numsOf (intItems xs).toList = ns := by rw [← e]; exact hi.numsOf
  rw [nums_intItems] at hn
  subst hn
  rw [e] at hl
  have nm : (toString "max" ++ toString ".loop" : String) = "max.loop" := by decide
  refine PyProof.Rows.kmk_tree PySem.F.kind_max PySem.F.plain_max PySem.F.entry_max (mxd_args _ _) ?_
  show wpAny _ A.in1 (Builtin.Builtins.bindParams "max" ["key", "default"] 0 ⟨[], dkw d⟩ >>= _) _ _ s
  refine wpAny_bind (wpAny_of_eq (show Builtin.Builtins.bindParams "max" ["key", "default"] 0 ⟨[], dkw d⟩ = pure [none, some d] from rfl) ?_)
  refine wpAny_bind (wpAny_pure ?_)
  refine wpAny_bind (iter_intList hl fun s2 e2 st hfp hlI => ?_)
  subst e2
  refine wpAny_bind (wpAny_newObj_type ?_)
  rw [nm]
  refine wpAny_pure ⟨plainId_quiet PySem.F.plain_max_loop _, ?_⟩
  have W := Walks.list (prog := prog) (w := w) (A := A.in1) hh s.heap.objs.size l hlI (intItems xs)
  refine mxd_first W _ (CmpOf.ints_gt (numAt xs) (fun _ _ => intItems_at)) _ (fun hm => Nat.lt_irrefl _ (hfp _ hm)) (W.frame _ _ _ st fun b _ o z => Heap.get?_push_of_some _ z) (Heap.get?_push_size _ rfl) (fun hz h' tk hk => ?_) fun hp v h' tk pv hk => ?_
  · have hz' : xs.size = 0 := by simpa [intItems] using hz
    refine h0 ?_ h' tk fun b o z => ?_
    · have : xs = #[] := Array.eq_empty_of_size_eq_zero hz'
      rw [this]; rfl
    · refine old_kept (l := l) (fun b o nb z => ?_) b o z
      exact hk b o nb (Nat.ne_of_lt (Heap.lt_size z)) (Heap.get?_push_of_some _ z)
  · have hsz : 0 < xs.size := by simpa [intItems] using hp
    have pv' : (intItems xs)[argBest (fun i j => decide (numAt xs i > numAt xs j)) (xs.size - 1)]? = some v := by simpa [intItems] using pv
    obtain ⟨t, rfl⟩ := intItems_at pv'
    obtain ⟨h1, h2⟩ := argBest_gt (numAt xs) (xs.size - 1)
    refine h h' tk _ t (fun b o z => ?_) ?_ fun a ha => ?_
    · refine old_kept (l := l) (fun b o nb z => ?_) b o z
      exact hk b o nb (Nat.ne_of_lt (Heap.lt_size z)) (Heap.get?_push_of_some _ z)
    · rw [numAt_eq]; exact PySem.getD_mem (by rw [List.length_map, Array.length_toList]; omega)
    · obtain ⟨j, hj, rfl⟩ := mem_getD ha
      rw [List.length_map, Array.length_toList] at hj
      rw [← numAt_eq]; exact h2 j (by omega)
end
section
variable {X : Cx} {e d : Expr} {t tk : TA} {p pos kpos : Pos}
def tMaxD (K : PySem.W.Frag) (t tk : TA) : TE := fun σ H Q => t σ H fun vs H1 => tk σ H1 fun zs H2 => ∃ (a : Addr) (ns : List Int) (y : V), vs = [.ref a] ∧ zs = [y] ∧ SqL K H2 a (ns.map V.int) ∧ (ns = [] → Q y H2) ∧ ∀ m, m ∈ ns → (∀ z, z ∈ ns → z ≤ m) → Q (.int m) H2
/-- max(e, default=d) -/
theorem pe_maxD (hc : X.calm = true) (hg : Gl X "max") (hm : X.mg "max" = none) (ha : PA X [e] t) (hk : PK X [⟨some "default", d, kpos⟩] tk)
    (hs : starEach [e] X.env = [(false, eval e X.env)] := by rfl) :
    PE X (.Call (.Name "max" p) [e] [⟨some "default", d, kpos⟩] pos) (tMaxD X.K t tk) := by
  intro pins s σ H Q I h
  refine wpAny_Call_Name_kw (ld_blt I hg hm (show bootBuiltins "max" = some (.builtin "max") by decide +kernel) ?_)
  refine PyProof.Rows.callWith_kw (thn (ha pos pins s σ H _ I h) fun us s1 ⟨vs, H1, I1, r1, q1⟩ => ?_) (by rw [hs]; rfl) (by rw [hs]; rfl)
  refine thn (hk pos pins s1 σ H1 _ I1 q1) fun ws s2 ⟨zs, H2, I2, r2, q2⟩ => ?_
  obtain ⟨a, ns, y, rfl, rfl, hq, k0, k1⟩ := q2
  obtain ⟨its, rv, hl, _⟩ := I2.list hq
  rw [Vals.ref1 r1]
  cases r2 with
  | cons ry rn =>
    cases rn
    refine mxd_raw (I2.ok.hd hc) hl.isList rv.ints (fun hz h' tk' kk => ⟨y, H2, I2.kept kk, ry, k0 hz⟩) fun h' tk' m t' kk h1 h2 => ⟨.int m, H2, I2.kept kk, ⟨_, rfl⟩, k1 m h1 h2⟩
end
end Sm
end
section
set_option Elab.async false
set_option linter.all false
set_option maxRecDepth 100000
/-! min(xs, default=d) of a list of ints -/
namespace Sm
open PySem PySem.Spec PyProof.Rows L2
/-- the one keyword -/
abbrev dkwn (d : Value) : List (Str × Value) := [("default", d)]
theorem mnd_args (a d : Value) : argsOk "min" ⟨[a], dkwn d⟩ := by unfold argsOk; kernel_rfl
section
variable {prog : Program} {w : World} {A : Around} {R : Result → Shared → Prop} {it : Addr} {fp wr : List Addr} {n : Nat} {P : Nat → Value → Prop} {St : Nat → Heap → Prop} {d : Value}
/-- the loop, its best so far known -/
theorem mnd_go (W : Walks prog w A.in1 it fp wr n P St) (bt : Nat → Nat → Bool) (cmp : CmpOf prog w A.in1 .Lt P bt) (B : Addr) (nB : B ∉ fp) :
    ∀ (left j : Nat) (s : Shared) (v0 : Value) (c : Nat), j + 1 + left = n → St (j + 1) s.heap → P (argBest bt j) v0 →
    s.heap.get? B = some ⟨.type "list", none, .seq #[v0, v0] c, #[]⟩ →
    (∀ v h' tk, P (argBest bt (n - 1)) v → (∀ b o, b ∉ wr → b ≠ B → s.heap.get? b = some o → h'.get? b = some o) → R (.ok (.ret v)) { s with heap := h', toks := tk }) →
    codeAny (model prog w) A (.builtin "min.loop" ⟨[.ref it, .none, .ref B], dkwn d⟩) R s := by
  have nBw : B ∉ wr := fun z => nB (W.sub _ z)
  have nm : (toString "min" ++ toString ".loop" : String) = "min.loop" := by decide
  intro left
  induction left with
  | zero =>
    intro j s v0 c e st p hB q
    have e1 : j + 1 = n := by omega
    refine codeAny_builtin PySem.F.entry_min_loop ?_
    rw [Around.under_plainId PySem.F.plain_min_loop _]
    show wpAny _ A.in1 (seqItems? (.ref B) >>= _) _ _ s
    refine wpAny_bind (wpAny_seqItems hB rfl ?_)
    show wpAny _ A.in1 (tryCatch (pyNext (.ref it)) _ >>= _) _ _ s
    refine wpAny_bind (wpAny_tryCatch (W.done s _ _ (e1 ▸ st) fun h1 tk k1 => ?_))
    have hB1 := k1 B _ nBw hB
    show wpAny _ A.in1 (updateSeq B (fun _ => #[]) >>= _) _ _ _
    refine wpAny_bind ?_
    refine wpAny_updateSeq hB1 rfl (wpAny_bind (wpAny_letGo (wpAny_pure ?_)))
    exact q v0 _ tk (by rw [← e1]; exact p) fun b o nb nb' z => (Heap.get?_update_other _ _ (Ne.symm nb')).trans (k1 b o nb z)
  | succ left ih =>
    intro j s v0 c e st p hB q
    have lt : j + 1 < n := by omega
    refine codeAny_builtin PySem.F.entry_min_loop ?_
    rw [Around.under_plainId PySem.F.plain_min_loop _]
    show wpAny _ A.in1 (seqItems? (.ref B) >>= _) _ _ s
    refine wpAny_bind (wpAny_seqItems hB rfl ?_)
    show wpAny _ A.in1 (tryCatch (pyNext (.ref it)) _ >>= _) _ _ s
    refine wpAny_bind (wpAny_tryCatch (W.item (j + 1) s _ _ lt st fun v h1 tk pv st1 k1 => ?_))
    have hB1 := k1 B _ nBw hB
    show wpAny _ A.in1 (tryCatch (holding [v, v] (richCompare .Lt v v0 >>= _)) _ >>= _) _ _ _
    refine wpAny_bind (wpAny_tryCatch (wpAny_holding (wpAny_bind (cmp (j + 1) (argBest bt j) v v0 _ _ _ pv p ?_))))
    refine wpAny_bind (wpAny_holding (wpAny_truthy_bool ?_))
    refine wpAny_bind (wpAny_letGo (wpAny_pure ?_))
    cases hb : bt (j + 1) (argBest bt j) with
    | true =>
      simp only [if_true]
      refine wpAny_bind ?_
      refine wpAny_updateSeq hB1 rfl (wpAny_bind (wpAny_letGo ?_))
      rw [nm]
      refine wpAny_pure ⟨plainId_quiet PySem.F.plain_min_loop _, ih (j + 1) _ v _ (by omega) (W.frame _ _ _ st1 fun b hbf o z => (Heap.get?_update_other _ _ (fun y : B = b => nB (by rw [y]; exact hbf))).trans z)
        (by simp only [argBest, hb, if_true]; exact pv) (Heap.get?_update_self _ hB1 rfl) fun v' h2 tk2 pv' k2 => ?_⟩
      exact q v' h2 tk2 pv' fun b o nb nb' z => k2 b o nb nb' ((Heap.get?_update_other _ _ (Ne.symm nb')).trans (k1 b o nb z))
    | false =>
      simp only [Bool.false_eq_true, if_false]
      refine wpAny_bind (wpAny_letGo ?_)
      rw [nm]
      refine wpAny_pure ⟨plainId_quiet PySem.F.plain_min_loop _, ih (j + 1) _ v0 c (by omega) st1 (by simp only [argBest, hb, Bool.false_eq_true, if_false]; exact p) hB1 fun v' h2 tk2 pv' k2 => ?_⟩
      exact q v' h2 tk2 pv' fun b o nb nb' z => k2 b o nb nb' (k1 b o nb z)
/-- the loop from its start: nothing there, or a best -/
theorem mnd_first (W : Walks prog w A.in1 it fp wr n P St) (bt : Nat → Nat → Bool) (cmp : CmpOf prog w A.in1 .Lt P bt) (B : Addr) (nB : B ∉ fp) {s : Shared} {c : Nat} (st : St 0 s.heap)
    (hB : s.heap.get? B = some ⟨.type "list", none, .seq #[] c, #[]⟩)
    (q0 : n = 0 → ∀ h' tk, (∀ b o, b ∉ wr → b ≠ B → s.heap.get? b = some o → h'.get? b = some o) → R (.ok (.ret d)) { s with heap := h', toks := tk })
    (q : 0 < n → ∀ v h' tk, P (argBest bt (n - 1)) v → (∀ b o, b ∉ wr → b ≠ B → s.heap.get? b = some o → h'.get? b = some o) → R (.ok (.ret v)) { s with heap := h', toks := tk }) :
    codeAny (model prog w) A (.builtin "min.loop" ⟨[.ref it, .none, .ref B], dkwn d⟩) R s := by
  have nBw : B ∉ wr := fun z => nB (W.sub _ z)
  have nm : (toString "min" ++ toString ".loop" : String) = "min.loop" := by decide
  refine codeAny_builtin PySem.F.entry_min_loop ?_
  rw [Around.under_plainId PySem.F.plain_min_loop _]
  show wpAny _ A.in1 (seqItems? (.ref B) >>= _) _ _ s
  refine wpAny_bind (wpAny_seqItems hB rfl ?_)
  show wpAny _ A.in1 (tryCatch (pyNext (.ref it)) _ >>= _) _ _ s
  by_cases hn : n = 0
  · refine wpAny_bind (wpAny_tryCatch (W.done s _ _ (by rw [hn]; exact st) fun h1 tk k1 => ?_))
    show wpAny _ A.in1 (rule _ >>= _) _ _ _
    refine wpAny_bind (wpAny_rule (wpAny_pure ?_))
    exact q0 hn _ tk fun b o nb _ z => k1 b o nb z
  · have hp : 0 < n := Nat.pos_of_ne_zero hn
    refine wpAny_bind (wpAny_tryCatch (W.item 0 s _ _ hp st fun v h1 tk pv st1 k1 => ?_))
    have hB1 := k1 B _ nBw hB
    show wpAny _ A.in1 (updateSeq B (fun _ => #[v, v]) >>= _) _ _ _
    refine wpAny_bind ?_
    refine wpAny_updateSeq hB1 rfl ?_
    rw [nm]
    refine wpAny_pure ⟨plainId_quiet PySem.F.plain_min_loop _, mnd_go W bt cmp B nB (n - 1) 0 _ v _ (by omega) (W.frame _ _ _ st1 fun b hbf o z => (Heap.get?_update_other _ _ (fun y : B = b => nB (by rw [y]; exact hbf))).trans z) pv
      (Heap.get?_update_self _ hB1 rfl) fun v' h2 tk2 pv' k2 => ?_⟩
    exact q hp v' h2 tk2 pv' fun b o nb nb' z => k2 b o nb nb' ((Heap.get?_update_other _ _ (Ne.symm nb')).trans (k1 b o nb z))
end
section
variable {prog : Program} {w : World} {A : Around} {E : Value → Shared → Prop} {s : Shared} {l : Addr} {its : List Value} {ns : List Int} {Q : Value → Shared → Prop} {d : Value}
theorem mnd_raw (hh : A.handled = none) (hl : s.heap.IsList l its.toArray) (hi : IntsAre its ns)
    (h0 : ns = [] → ∀ h' tk, (∀ b o, s.heap.get? b = some o → h'.get? b = some o) → Q d { s with heap := h', toks := tk })
    (h : ∀ h' tk M t', (∀ b o, s.heap.get? b = some o → h'.get? b = some o) → M ∈ ns → (∀ a, a ∈ ns → M ≤ a) → Q (.int M t') { s with heap := h', toks := tk }) : wpAny (model prog w) A (call (.builtin "min") [.ref l] (dkwn d)) Q E s := by
  obtain ⟨xs, e⟩ := hi.allInts.items
  have hn : numsOf (intItems xs).toList = ns := by rw [← e]; exact hi.numsOf
  rw [nums_intItems] at hn
  subst hn
  rw [e] at hl
  have nm : (toString "min" ++ toString ".loop" : String) = "min.loop" := by decide
  refine PyProof.Rows.kmk_tree PySem.F.kind_min PySem.F.plain_min PySem.F.entry_min (mnd_args _ _) ?_
  show wpAny _ A.in1 (Builtin.Builtins.bindParams "min" ["key", "default"] 0 ⟨[], dkwn d⟩ >>= _) _ _ s
  refine wpAny_bind (wpAny_of_eq (show Builtin.Builtins.bindParams "min" ["key", "default"] 0 ⟨[], dkwn d⟩ = pure [none, some d] from rfl) ?_)
  refine wpAny_bind (wpAny_pure ?_)
  refine wpAny_bind (iter_intList hl fun s2 e2 st hfp hlI => ?_)
  subst e2
  refine wpAny_bind (wpAny_newObj_type ?_)
  rw [nm]
  refine wpAny_pure ⟨plainId_quiet PySem.F.plain_min_loop _, ?_⟩
  have W := Walks.list (prog := prog) (w := w) (A := A.in1) hh s.heap.objs.size l hlI (intItems xs)
  refine mnd_first W _ (CmpOf.ints_lt (numAt xs) (fun _ _ => intItems_at)) _ (fun hm => Nat.lt_irrefl _ (hfp _ hm)) (W.frame _ _ _ st fun b _ o z => Heap.get?_push_of_some _ z) (Heap.get?_push_size _ rfl) (fun hz h' tk hk => ?_) fun hp v h' tk pv hk => ?_
  · have hz' : xs.size = 0 := by simpa [intItems] using hz
    refine h0 ?_ h' tk fun b o z => ?_
    · have : xs = #[] := Array.eq_empty_of_size_eq_zero hz'
      rw [this]; rfl
    · refine old_kept (l := l) (fun b o nb z => ?_) b o z
      exact hk b o nb (Nat.ne_of_lt (Heap.lt_size z)) (Heap.get?_push_of_some _ z)
  · have hsz : 0 < xs.size := by simpa [intItems] using hp
    have pv' : (intItems xs)[argBest (fun i j => decide (numAt xs i < numAt xs j)) (xs.size - 1)]? = some v := by simpa [intItems] using pv
    obtain ⟨t, rfl⟩ := intItems_at pv'
    obtain ⟨h1, h2⟩ := argBest_lt (numAt xs) (xs.size - 1)
    refine h h' tk _ t (fun b o z => ?_) ?_ fun a ha => ?_
    · refine old_kept (l := l) (fun b o nb z => ?_) b o z
      exact hk b o nb (Nat.ne_of_lt (Heap.lt_size z)) (Heap.get?_push_of_some _ z)
    · rw [numAt_eq]; exact PySem.getD_mem (by rw [List.length_map, Array.length_toList]; omega)
    · obtain ⟨j, hj, rfl⟩ := mem_getD ha
      rw [List.length_map, Array.length_toList] at hj
      rw [← numAt_eq]; exact h2 j (by omega)
end
section
variable {X : Cx} {e d : Expr} {t tk : TA} {p pos kpos : Pos}
def tMinD (K : PySem.W.Frag) (t tk : TA) : TE := fun σ H Q => t σ H fun vs H1 => tk σ H1 fun zs H2 => ∃ (a : Addr) (ns : List Int) (y : V), vs = [.ref a] ∧ zs = [y] ∧ SqL K H2 a (ns.map V.int) ∧ (ns = [] → Q y H2) ∧ ∀ m, m ∈ ns → (∀ z, z ∈ ns → m ≤ z) → Q (.int m) H2
/-- min(e, default=d) -/
theorem pe_minD (hc : X.calm = true) (hg : Gl X "min") (hm : X.mg "min" = none) (ha : PA X [e] t) (hk : PK X [⟨some "default", d, kpos⟩] tk)
    (hs : starEach [e] X.env = [(false, eval e X.env)] := by rfl) :
    PE X (.Call (.Name "min" p) [e] [⟨some "default", d, kpos⟩] pos) (tMinD X.K t tk) := by
  intro pins s σ H Q I h
  refine wpAny_Call_Name_kw (ld_blt I hg hm (show bootBuiltins "min" = some (.builtin "min") by decide +kernel) ?_)
  refine PyProof.Rows.callWith_kw (thn (ha pos pins s σ H _ I h) fun us s1 ⟨vs, H1, I1, r1, q1⟩ => ?_) (by rw [hs]; rfl) (by rw [hs]; rfl)
  refine thn (hk pos pins s1 σ H1 _ I1 q1) fun ws s2 ⟨zs, H2, I2, r2, q2⟩ => ?_
  obtain ⟨a, ns, y, rfl, rfl, hq, k0, k1⟩ := q2
  obtain ⟨its, rv, hl, _⟩ := I2.list hq
  rw [Vals.ref1 r1]
  cases r2 with
  | cons ry rn =>
    cases rn
    refine mnd_raw (I2.ok.hd hc) hl.isList rv.ints (fun hz h' tk' kk => ⟨y, H2, I2.kept kk, ry, k0 hz⟩) fun h' tk' m t' kk h1 h2 => ⟨.int m, H2, I2.kept kk, ⟨_, rfl⟩, k1 m h1 h2⟩
end
end Sm
end
section
set_option Elab.async false
set_option linter.all false
set_option maxRecDepth 100000
/-! loops over enumerate(list) and zip(list, list); a comprehension over zip(list, list) -/
namespace Sm
open PySem PySem.Spec L2
open PyProof.Rows hiding St
theorem for_enum {K : PySem.W.Frag} {a : Addr} {xs : List V} {g : TG} {tb : TS} {D : Ends} {σ : St} {H : Hp} (Pv : Nat → St → Hp → Prop) (h0 : Pv 0 σ H) (hl : ∀ i σ H, i ≤ xs.length → Pv i σ H → SqL K H a xs)
    (hs : ∀ i x σ H, xs[i]? = some x → Pv i σ H → ∀ T, H T = none → g (.ref T) σ (upd H T (.tup [.int (i : Nat), x])) fun σ2 H2 => tb { D with nx := Pv (i + 1), ct := Pv (i + 1), bk := D.nx } σ2 H2) (hd : ∀ σ H, Pv xs.length σ H → D.nx σ H) :
    ∃ W : Nat → Nat → St → Hp → Prop, (∃ m, W 0 m σ H) ∧ ∀ i m σ H, W i m σ H →
      ((Ite K a).stop i H ∧ D.nx σ H) ∨ ((Ite K a).go i H ∧ ∃ N : St → Hp → Prop, (∀ σ' H', N σ' H' → ∃ m', m' < m ∧ W (i + 1) m' σ' H') ∧ ∀ x H', (Ite K a).yld i H x H' → g x σ H' fun σ2 H2 => tb { D with nx := N, ct := N, bk := D.nx } σ2 H2) := by
  refine ⟨fun i m σ H => m + i = xs.length ∧ Pv i σ H, ⟨xs.length, rfl, h0⟩, fun i m σ H hw => ?_⟩
  obtain ⟨e, p⟩ := hw
  have q := hl i σ H (by omega) p
  by_cases lt : i < xs.length
  · refine .inr ⟨⟨xs, xs[i], q, by simp [lt]⟩, Pv (i + 1), fun σ' H' p' => ⟨m - 1, by omega, by omega, p'⟩, fun v H' y => ?_⟩
    obtain ⟨T, x, rfl, hT, rfl, hx⟩ := y
    exact hs i x σ H (hx xs q) p T hT
  · have z : i = xs.length := by omega
    exact .inl ⟨⟨xs, q, by omega⟩, hd σ H (by rw [← z]; exact p)⟩
theorem for_zip {K : PySem.W.Frag} {a b : Addr} {xs ys : List V} {n : Nat} {g : TG} {tb : TS} {D : Ends} {σ : St} {H : Hp} (Pv : Nat → St → Hp → Prop) (hn : n = min xs.length ys.length) (h0 : Pv 0 σ H) (hl : ∀ i σ H, i ≤ n → Pv i σ H → SqL K H a xs ∧ SqL K H b ys)
    (hs : ∀ i x y σ H, xs[i]? = some x → ys[i]? = some y → Pv i σ H → ∀ T, H T = none → g (.ref T) σ (upd H T (.tup [x, y])) fun σ2 H2 => tb { D with nx := Pv (i + 1), ct := Pv (i + 1), bk := D.nx } σ2 H2) (hd : ∀ σ H, Pv n σ H → D.nx σ H) :
    ∃ W : Nat → Nat → St → Hp → Prop, (∃ m, W 0 m σ H) ∧ ∀ i m σ H, W i m σ H →
      ((Itz K a b).stop i H ∧ D.nx σ H) ∨ ((Itz K a b).go i H ∧ ∃ N : St → Hp → Prop, (∀ σ' H', N σ' H' → ∃ m', m' < m ∧ W (i + 1) m' σ' H') ∧ ∀ x H', (Itz K a b).yld i H x H' → g x σ H' fun σ2 H2 => tb { D with nx := N, ct := N, bk := D.nx } σ2 H2) := by
  refine ⟨fun i m σ H => m + i = n ∧ Pv i σ H, ⟨n, rfl, h0⟩, fun i m σ H hw => ?_⟩
  obtain ⟨e, p⟩ := hw
  obtain ⟨q1, q2⟩ := hl i σ H (by omega) p
  by_cases lt : i < n
  · have l1 : i < xs.length := by omega
    have l2 : i < ys.length := by omega
    refine .inr ⟨⟨xs, ys, xs[i], ys[i], q1, q2, by simp [l1], by simp [l2]⟩, Pv (i + 1), fun σ' H' p' => ⟨m - 1, by omega, by omega, p'⟩, fun v H' y => ?_⟩
    obtain ⟨T, x, z, rfl, hT, rfl, hx, hy⟩ := y
    exact hs i x z σ H (hx xs q1) (hy ys q2) p T hT
  · have z : i = n := by omega
    refine .inl ⟨⟨xs, ys, q1, q2, by omega⟩, hd σ H (by rw [← z]; exact p)⟩
theorem lc_zip {K : PySem.W.Frag} {a b : Addr} {xs ys : List V} {n : Nat} {g : TG} {tt : TT} {te : TE} {vs : List Nat} {σ : St} {H1 : Hp} {D : Addr} {Qd : Hp → Prop} (Pv : Nat → Hp → Prop) (hn : n = min xs.length ys.length) (h0 : Pv 0 (upd H1 D (.lst []))) (hl : ∀ i H, i ≤ n → Pv i H → SqL K H a xs ∧ SqL K H b ys)
    (hs : ∀ i x y H, xs[i]? = some x → ys[i]? = some y → Pv i H → ∀ T, H T = none → g (.ref T) (wipe σ vs) (upd H T (.tup [x, y])) fun σ2 H2 => wipe σ2 vs = wipe σ vs ∧ tt σ2 H2 fun c H3 =>
      if c = true then te σ2 H3 fun z H4 => ∃ acc, H4 D = some (.lst acc) ∧ acc.length < sizeLine ∧ Pv (i + 1) (upd H4 D (.lst (acc ++ [z]))) else Pv (i + 1) H3) (hd : ∀ H, Pv n H → Qd H) :
    ∃ W : Nat → Nat → Hp → Prop, (∃ m, W 0 m (upd H1 D (.lst []))) ∧ ∀ i m H, W i m H →
      ((Itz K a b).stop i H ∧ Qd H) ∨ ((Itz K a b).go i H ∧ ∃ Nx : Hp → Prop, (∀ H', Nx H' → ∃ m', m' < m ∧ W (i + 1) m' H') ∧ ∀ x H', (Itz K a b).yld i H x H' → g x (wipe σ vs) H' fun σ2 H2 => wipe σ2 vs = wipe σ vs ∧ tt σ2 H2 fun c H3 =>
        if c = true then te σ2 H3 fun y H4 => ∃ acc, H4 D = some (.lst acc) ∧ acc.length < sizeLine ∧ Nx (upd H4 D (.lst (acc ++ [y]))) else Nx H3) := by
  refine ⟨fun i m H => m + i = n ∧ Pv i H, ⟨n, rfl, h0⟩, fun i m H hw => ?_⟩
  obtain ⟨e, p⟩ := hw
  obtain ⟨q1, q2⟩ := hl i H (by omega) p
  by_cases lt : i < n
  · have l1 : i < xs.length := by omega
    have l2 : i < ys.length := by omega
    refine .inr ⟨⟨xs, ys, xs[i], ys[i], q1, q2, by simp [l1], by simp [l2]⟩, Pv (i + 1), fun H' p' => ⟨m - 1, by omega, by omega, p'⟩, fun v H' y => ?_⟩
    obtain ⟨T, x, z, rfl, hT, rfl, hx, hy⟩ := y
    exact hs i x z H (hx xs q1) (hy ys q2) p T hT
  · have z : i = n := by omega
    exact .inl ⟨⟨xs, ys, q1, q2, by omega⟩, hd H (by rw [← z]; exact p)⟩
/-- a new object leaves what was tracked -/
theorem Same.new {H : Hp} {p : Addr} {o : HO} (h : H p = none) : Same H (upd H p o) := fun b u e => by
  rw [upd_ne (ne_of_none e h)]
  exact e
theorem Same.rfl' {H : Hp} : Same H H := fun _ _ e => e
end Sm
end
section
set_option Elab.async false
set_option linter.all false
set_option maxRecDepth 100000
set_option maxHeartbeats 2000000
/-! rules that the layer lacks: slices with a step, list.count, == and in of lists of ints -/
namespace Sm
open PySem PySem.Spec L2
open PyProof.Rows hiding St
/-! ### every other item -/
theorem evens_pick {α : Type} : ∀ l : List α, (List.range ((l.length + 1) / 2)).filterMap (fun k => l[2 * k]?) = evens l
  | [] => by simp [evens]
  | [a] => by simp [evens]
  | a :: b :: r => by
    have e : ((a :: b :: r).length + 1) / 2 = (r.length + 1) / 2 + 1 := by
      show (r.length + 1 + 1 + 1) / 2 = _
      omega
    rw [e, List.range_succ_eq_map, List.filterMap_cons]
    show a :: ((List.range ((r.length + 1) / 2)).map Nat.succ).filterMap (fun k => (a :: b :: r)[2 * k]?) = a :: evens r
    rw [List.filterMap_map, ← evens_pick r]
    congr 1
theorem odds_pick {α : Type} : ∀ l : List α, (List.range (l.length / 2)).filterMap (fun k => l[2 * k + 1]?) = odds l
  | [] => by simp [odds]
  | [a] => by simp [odds]
  | a :: b :: r => by
    have e : (a :: b :: r).length / 2 = r.length / 2 + 1 := by
      show (r.length + 1 + 1) / 2 = _
      omega
    rw [e, List.range_succ_eq_map, List.filterMap_cons]
    show b :: ((List.range (r.length / 2)).map Nat.succ).filterMap (fun k => (a :: b :: r)[2 * k + 1]?) = b :: odds r
    rw [List.filterMap_map, ← odds_pick r]
    congr 1
theorem slice_evens (l : List Value) : slicePick l.toArray none none (some 2) = (evens l).toArray := by
  unfold slicePick
  have e : sliceBounds none none (some 2) l.toArray.size = (0, (l.length : Int), 2) := by simp [sliceBounds]
  rw [e]
  unfold sliceRange
  have c : (if (2 : Int) > 0 then (if (0 : Int) < (l.length : Int) then ((l.length : Int) - 0 + 2 - 1) / 2 else 0) else (if (0 : Int) > (l.length : Int) then (0 - (l.length : Int) - 2 - 1) / (-2) else 0)).toNat = (l.length + 1) / 2 := by
    rw [if_pos (by decide)]
    split <;> omega
  show (((List.range (if (2 : Int) > 0 then (if (0 : Int) < (l.length : Int) then ((l.length : Int) - 0 + 2 - 1) / 2 else 0) else (if (0 : Int) > (l.length : Int) then (0 - (l.length : Int) - 2 - 1) / (-2) else 0)).toNat).map fun (k : Nat) => ((0 : Int) + 2 * (k : Int)).toNat).filterMap (l.toArray[·]?)).toArray = _
  rw [c, List.filterMap_map, ← evens_pick l]
  congr 1
  congr 1
  funext k
  show l.toArray[((0 : Int) + 2 * (k : Int)).toNat]? = l[2 * k]?
  have : ((0 : Int) + 2 * (k : Int)).toNat = 2 * k := by omega
  rw [this]
  simp
theorem slice_odds (l : List Value) : slicePick l.toArray (some 1) none (some 2) = (odds l).toArray := by
  unfold slicePick
  cases l with
  | nil => rfl
  | cons a r =>
    have e : sliceBounds (some 1) none (some 2) (a :: r).toArray.size = (1, ((a :: r).length : Int), 2) := by
      simp [sliceBounds]
      omega
    rw [e]
    unfold sliceRange
    have c : (if (2 : Int) > 0 then (if (1 : Int) < ((a :: r).length : Int) then (((a :: r).length : Int) - 1 + 2 - 1) / 2 else 0) else (if (1 : Int) > ((a :: r).length : Int) then (1 - ((a :: r).length : Int) - 2 - 1) / (-2) else 0)).toNat = (a :: r).length / 2 := by
      rw [if_pos (by decide)]
      have : (a :: r).length = r.length + 1 := rfl
      split <;> omega
    show (((List.range (if (2 : Int) > 0 then (if (1 : Int) < ((a :: r).length : Int) then (((a :: r).length : Int) - 1 + 2 - 1) / 2 else 0) else (if (1 : Int) > ((a :: r).length : Int) then (1 - ((a :: r).length : Int) - 2 - 1) / (-2) else 0)).toNat).map fun (k : Nat) => ((1 : Int) + 2 * (k : Int)).toNat).filterMap ((a :: r).toArray[·]?)).toArray = _
    rw [c, List.filterMap_map, ← odds_pick (a :: r)]
    congr 1
    congr 1
    funext k
    show (a :: r).toArray[((1 : Int) + 2 * (k : Int)).toNat]? = (a :: r)[2 * k + 1]?
    have : ((1 : Int) + 2 * (k : Int)).toNat = 2 * k + 1 := by omega
    rw [this]
    simp
theorem vals_evens : ∀ {xs : List V} {us : List Value}, Vals xs us → Vals (evens xs) (evens us)
  | _, _, .nil => .nil
  | _, _, .cons r .nil => .cons r .nil
  | _, _, .cons r (.cons _ t) => .cons r (vals_evens t)
theorem vals_odds : ∀ {xs : List V} {us : List Value}, Vals xs us → Vals (odds xs) (odds us)
  | _, _, .nil => .nil
  | _, _, .cons _ .nil => .nil
  | _, _, .cons _ (.cons r t) => .cons r (vals_odds t)
section
variable {X : Cx} {e : Expr} {te : TE} {lo : Option Expr} {tl : TO} {pos p2 p3 : Pos} {j : Nat}
/-- xs[::2], xs[1::2] -/
def rHalf (K : PySem.W.Frag) : V → Option Int → Hp → VK → Prop := fun x l H Q => ∃ a xs, x = .ref a ∧ SqL K H a xs ∧ ((l = none ∧ ∀ p, H p = none → Q (.ref p) (upd H p (.lst (evens xs)))) ∨ (l = some 1 ∧ ∀ p, H p = none → Q (.ref p) (upd H p (.lst (odds xs)))))
def tHalf (K : PySem.W.Frag) (te : TE) (tl : TO) : TE := fun σ H Q => te σ H fun x H1 => tl σ H1 fun l H2 => rHalf K x l H2 Q
theorem pe_half (he : PE X e te) (hl : PO X lo tl) : PE X (.Subscript e (.Slice lo none (some (.Constant (.int 2) j p3)) p2) pos) (tHalf X.K te tl) := by
  intro pins s σ H Q I h
  refine Subscript_ (thn (he pins s σ H _ I h) fun v s1 ⟨x, H1, I1, r1, q1⟩ => ?_)
  refine wpAny_Slice (thn (hl pins s1 σ H1 _ I1 q1) fun vl s2 ⟨l, H2, I2, pl, q2⟩ => ?_)
  rw [evalPart_none]
  refine wpAny_pure ?_
  rw [evalPart_some]
  refine wpAny_Constant_int ?_
  obtain ⟨a, xs, rfl, hx, q⟩ := q2
  cases r1
  have I3 : Inv X pins σ H2 { s2 with toks := s2.toks + 1 } := I2.tok _
  have I4 : Inv X pins σ H2 { s2 with toks := s2.toks + 1, heap := s2.heap.push { cls := .type "slice", data := .fields #[vl, .none, .int 2 s2.toks] } } := I3.kept (t' := s2.toks + 1) fun b ob z => Heap.get?_push_of_some _ z
  obtain ⟨its, r, ht, hz⟩ := I4.list hx
  have hlen := r.length
  show wpAny (model X.prog X.w) X.A (subscriptTail e (.Slice lo none (some (.Constant (.int 2) j p3)) p2) (.ref a) (.ref s2.heap.objs.size)) (EP X pins σ Q) X.xe { s2 with toks := s2.toks + 1, heap := s2.heap.push { cls := .type "slice", data := .fields #[vl, .none, .int 2 s2.toks] } }
  refine tail_any (T := "list") (ops := [.ref a, .ref s2.heap.objs.size]) ht.isList.typeIs slot_list_getitem.lookup ?_ (by with_unfolding_all rfl)
  refine wpAny_getItem_list_slice ht.isList (Heap.IsSliceOf.new ..) pl .none (.int 2 _) (by decide) ?_ (by rw [List.size_toArray]; omega)
  rcases q with ⟨rfl, q⟩ | ⟨rfl, q⟩
  · rw [slice_evens]
    exact ⟨.ref _, _, I4.lnew (t' := s2.toks + 1) (vals_evens r) (Nat.le_trans (evens_len xs) hz), rfl, q _ I4.fresh⟩
  · rw [slice_odds]
    exact ⟨.ref _, _, I4.lnew (t' := s2.toks + 1) (vals_odds r) (Nat.le_trans (odds_len xs) hz), rfl, q _ I4.fresh⟩
/-- xs.count(k), ints -/
def rCount (K : PySem.W.Frag) : V → List V → Hp → VK → Prop := fun x xs H Q => ∃ (a : Addr) (ns : List Int) (k : Int), x = .ref a ∧ xs = [.int k] ∧ SqL K H a (ns.map V.int) ∧ Q (.int (ns.count k : Nat)) H
theorem mt_count : MtR X "list.count" (rCount X.K) := by
  intro pins s σ H x xs v us Q I rx rxs h
  obtain ⟨a, ns, k, rfl, rfl, hs, q⟩ := h
  cases rx
  obtain ⟨u, rfl, ru⟩ := rxs.one
  obtain ⟨t, rfl⟩ := ru
  obtain ⟨its, rv, hl, _⟩ := I.list hs
  exact count_list_ints hl.isList rv.ints ⟨.int _, H, I.tok _, ⟨_, rfl⟩, q⟩
end
/-! ### lists of ints, alike or not -/
theorem ints_at {ns : List Int} : ∀ {us : List Value}, IntsAre us ns → us.length = ns.length ∧ ∀ j (h : j < us.length), ∃ t, us[j] = .int (ns.getD j 0) t := by
  induction ns with
  | nil =>
    intro us h
    cases h
    exact ⟨rfl, fun j h => absurd h (Nat.not_lt_zero _)⟩
  | cons n ns ih =>
    intro us h
    cases h with
    | cons _ t h' =>
      obtain ⟨h1, h2⟩ := ih h'
      refine ⟨by rw [List.length_cons, List.length_cons, h1], fun j hj => ?_⟩
      cases j with
      | zero => exact ⟨t, rfl⟩
      | succ j => exact h2 j (Nat.lt_of_succ_lt_succ hj)
theorem all_alike : ∀ (ns ms : List Int), ns.length = ms.length → (List.range ns.length).all (fun j => ns.getD j 0 == ms.getD j 0) = decide (ns = ms)
  | [], [], _ => rfl
  | [], _ :: _, h => by cases h
  | _ :: _, [], h => by cases h
  | a :: ns, b :: ms, h => by
    rw [List.length_cons, List.range_succ_eq_map, List.all_cons, List.all_map]
    have ih := all_alike ns ms (Nat.succ.inj h)
    show ((a == b) && (List.range ns.length).all (fun j => ns.getD j 0 == ms.getD j 0)) = _
    rw [ih]
    by_cases c : a = b
    · subst c
      by_cases d : ns = ms
      · simp [d]
      · simp [d]
    · simp [c]
theorem rc_lists {A : Around} {s : Shared} {a b : Addr} {us vs : List Value} {ns ms : List Int} (ha : s.heap.IsList a us.toArray) (hb : s.heap.IsList b vs.toArray) (i1 : IntsAre us ns) (i2 : IntsAre vs ms) (hu : A.units < cLine) :
    SeqAt.RcAt A s (.ref a) (.ref b) (decide (ns = ms)) := by
  obtain ⟨l1, g1⟩ := ints_at i1
  obtain ⟨l2, g2⟩ := ints_at i2
  by_cases c : ns.length = ms.length
  · have h := SeqAt.RcAt.lists (e := fun j => ns.getD j 0 == ms.getD j 0) ha hb (by rw [List.size_toArray, List.size_toArray, l1, l2, c]) hu (fun j h1 h2 => by
      obtain ⟨t1, e1⟩ := g1 j (by simpa using h1)
      obtain ⟨t2, e2⟩ := g2 j (by simpa using h2)
      have e1' : us.toArray[j] = .int (ns.getD j 0) t1 := by simpa using e1
      have e2' : vs.toArray[j] = .int (ms.getD j 0) t2 := by simpa using e2
      rw [e1', e2']
      exact SeqAt.EqAt.int_int _ _ _ _)
    rw [List.size_toArray, l1, all_alike ns ms c] at h
    exact h
  · have h := SeqAt.RcAt.lists_lengths (A := A) ha hb (by rw [List.size_toArray, List.size_toArray, l1, l2]; simpa using c) hu
    rw [decide_eq_false (fun e => c (by rw [e]))]
    exact h
theorem eq_lists {A : Around} {s : Shared} {a b : Addr} {us vs : List Value} {ns ms : List Int} (ha : s.heap.IsList a us.toArray) (hb : s.heap.IsList b vs.toArray) (i1 : IntsAre us ns) (i2 : IntsAre vs ms) (hu : A.units < cLine) (hs : a = b → ns = ms) :
    SeqAt.EqAt A s (.ref a) (.ref b) (decide (ns = ms)) := by
  by_cases c : a = b
  · rw [decide_eq_true (hs c), c]
    exact SeqAt.EqAt.same _
  · exact SeqAt.EqAt.of_refs c (rc_lists ha hb i1 i2 hu)
/-- addresses that stand for things, one by one -/
inductive Each {α : Type} (P : Addr → α → Prop) : List Addr → List α → Prop
  | nil : Each P [] []
  | cons {a : Addr} {y : α} {as : List Addr} {ys : List α} : P a y → Each P as ys → Each P (a :: as) (y :: ys)
section
variable {α β : Type} {P P' : Addr → α → Prop}
theorem Each.len : ∀ {as : List Addr} {ys : List α}, Each P as ys → as.length = ys.length
  | _, _, .nil => rfl
  | _, _, .cons _ t => by rw [List.length_cons, List.length_cons, t.len]
theorem Each.get : ∀ {as : List Addr} {ys : List α}, Each P as ys → ∀ {j : Nat} {a : Addr}, as[j]? = some a → ∃ y, ys[j]? = some y ∧ P a y
  | _, _, .nil, j, a, h => by simp at h
  | _, _, .cons p t, 0, a, h => by
    have e : _ = a := Option.some.inj h
    subst e
    exact ⟨_, rfl, p⟩
  | _, _, .cons p t, j + 1, a, h => t.get (j := j) h
theorem Each.snoc : ∀ {as : List Addr} {ys : List α} {a : Addr} {y : α}, Each P as ys → P a y → Each P (as ++ [a]) (ys ++ [y])
  | _, _, _, _, .nil, p => .cons p .nil
  | _, _, _, _, .cons q t, p => .cons q (t.snoc p)
theorem Each.append : ∀ {as bs : List Addr} {ys zs : List α}, Each P as ys → Each P bs zs → Each P (as ++ bs) (ys ++ zs)
  | _, _, _, _, .nil, p => p
  | _, _, _, _, .cons q t, p => .cons q (t.append p)
theorem Each.mono (h : ∀ a y, P a y → P' a y) : ∀ {as : List Addr} {ys : List α}, Each P as ys → Each P' as ys
  | _, _, .nil => .nil
  | _, _, .cons q t => .cons (h _ _ q) (t.mono h)
theorem Each.map {Q : Addr → β → Prop} (f : α → β) (h : ∀ a y, P a y → Q a (f y)) : ∀ {as : List Addr} {ys : List α}, Each P as ys → Each Q as (ys.map f)
  | _, _, .nil => .nil
  | _, _, .cons q t => .cons (h _ _ q) (t.map f h)
theorem take_more {l : List α} {i : Nat} {y : α} (h : l[i]? = some y) : l.take (i + 1) = l.take i ++ [y] := by
  rw [List.take_add_one, h]
  rfl
end
abbrev nvL (l : List Nat) : List V := l.map fun (n : Nat) => V.int (n : Int)
theorem nvL_ints (l : List Nat) : nvL l = (Si81.ints l).map V.int := by
  unfold nvL Si81.ints
  rw [List.map_map]
  rfl
theorem ints_inj : ∀ {a b : List Nat}, Si81.ints a = Si81.ints b → a = b
  | [], [], _ => rfl
  | [], _ :: _, h => by cases h
  | _ :: _, [], h => by cases h
  | x :: a, y :: b, h => by
    have h' : (x : Int) :: Si81.ints a = (y : Int) :: Si81.ints b := h
    obtain ⟨h1, h2⟩ := List.cons.inj h'
    rw [ints_inj h2]
    congr 1
    omega
theorem nvL_inj {a b : List Nat} (h : nvL a = nvL b) : a = b := by
  rw [nvL_ints, nvL_ints] at h
  refine ints_inj ?_
  have : ∀ (x y : List Int), x.map V.int = y.map V.int → x = y := by
    intro x
    induction x with
    | nil => intro y h; cases y with | nil => rfl | cons _ _ => cases h
    | cons u x ih =>
      intro y h
      cases y with
      | nil => cases h
      | cons w y =>
        obtain ⟨h1, h2⟩ := List.cons.inj h
        rw [ih y h2, V.int.inj h1]
  exact this _ _ h
/-- a list of naturals stands at a -/
def NatsAt (H : Hp) (a : Addr) (f : List Nat) : Prop := H a = some (.lst (nvL f))
section
variable {X : Cx}
/-- == of two lists of naturals -/
def rEqL (K : PySem.W.Frag) : R2 := fun x y H Q => ∃ a b f g, x = .ref a ∧ y = .ref b ∧ SqL K H a (nvL f) ∧ SqL K H b (nvL g) ∧ Q (.bl (decide (f = g))) H
theorem op_eqL (hu : X.A.units + 1 < cLine) : OpR X (compareOp .Eq) (rEqL X.K) := by
  intro pins s σ H x y v u Q I rx ry h
  obtain ⟨a, b, f, g, rfl, rfl, ha, hb, q⟩ := h
  cases rx
  cases ry
  rw [nvL_ints] at ha hb
  obtain ⟨us, r1, p1, _⟩ := I.list ha
  obtain ⟨vs, r2, p2, _⟩ := I.list hb
  refine rc_lists p1.isList p2.isList r1.ints r2.ints (by omega) _ _ _ _ ⟨.bl (decide (f = g)), H, I, ?_, q⟩
  show Value.bool _ = Value.bool _
  congr 1
  exact decide_eq_decide.mpr ⟨fun e => ints_inj e, fun e => by rw [e]⟩
open Classical in
/-- whether the list at a place holds these numbers -/
noncomputable def holdsV (H : Hp) (o : List Nat) : Value → Bool
  | .ref a => decide (NatsAt H a o)
  | _ => false
/-- x not in a list of lists of naturals -/
def rNotInL (K : PySem.W.Frag) : R2 := fun x y H Q => ∃ a d o as fs, x = .ref a ∧ y = .ref d ∧ NatsAt H a o ∧ H d = some (.lst (as.map V.ref)) ∧ Each (NatsAt H) as fs ∧ Q (.bl (!decide (o ∈ fs))) H
open Classical in
theorem any_holds {H : Hp} {o : List Nat} : ∀ {as : List Addr} {fs : List (List Nat)} {us : List Value}, Each (NatsAt H) as fs → Vals (as.map V.ref) us → us.any (holdsV H o) = decide (o ∈ fs)
  | _, _, _, .nil, .nil => by simp
  | a :: as, f :: fs, u :: us, .cons p t, .cons r rs => by
    have e : u = .ref a := r
    subst e
    rw [List.any_cons, any_holds t rs]
    by_cases c : f = o
    · subst c
      have : holdsV H f (.ref a) = true := decide_eq_true p
      rw [this]
      simp
    · have : holdsV H o (.ref a) = false := by
        refine decide_eq_false fun z => c ?_
        have z' : H a = some (.lst (nvL o)) := z
        have p' : H a = some (.lst (nvL f)) := p
        rw [p'] at z'
        exact nvL_inj (HO.lst.inj (Option.some.inj z'))
      rw [this]
      have c' : ¬ o = f := fun z => c z.symm
      simp [c']
theorem each_mem {P : Addr → List Nat → Prop} : ∀ {as : List Addr} {fs : List (List Nat)} {us : List Value}, Each P as fs → Vals (as.map V.ref) us → ∀ u ∈ us, ∃ a f, u = .ref a ∧ P a f
  | _, _, _, .nil, .nil, u, h => by cases h
  | a :: as, f :: fs, v :: us, .cons p t, .cons r rs, u, h => by
    rcases List.mem_cons.mp h with e | h
    · exact ⟨a, f, e.trans r, p⟩
    · exact each_mem t rs u h
open Classical in
theorem op_notInL (hu : X.A.units + 1 < cLine) : OpR X (compareOp .NotIn) (rNotInL X.K) := by
  intro pins s σ H x y v u Q I rx ry h
  obtain ⟨a, d, o, as, fs, rfl, rfl, ha, hd, hE, q⟩ := h
  cases rx
  cases ry
  obtain ⟨us, r1, p1, _⟩ := I.list (SqL.of (K := X.K) hd)
  have ha' : H a = some (.lst ((Si81.ints o).map V.int)) := by rw [← nvL_ints]; exact ha
  obtain ⟨vs, r2, p2, _⟩ := I.list (SqL.of (K := X.K) ha')
  refine SeqAt.notIn_listAt (holdsV H o) p1.isList (fun w hw => ?_) ⟨.bl _, H, I, ?_, q⟩
  · obtain ⟨b, f, rfl, hb⟩ := each_mem hE r1 w (by simpa using hw)
    have hb' : H b = some (.lst ((Si81.ints f).map V.int)) := by rw [← nvL_ints]; exact hb
    obtain ⟨ws, r3, p3, _⟩ := I.list (SqL.of (K := X.K) hb')
    have same : holdsV H o (.ref b) = decide (Si81.ints f = Si81.ints o) := by
      show decide (NatsAt H b o) = _
      refine decide_eq_decide.mpr ⟨fun z => ?_, fun z => ?_⟩
      · have z' : H b = some (.lst (nvL o)) := z
        have hb2 : H b = some (.lst (nvL f)) := hb
        rw [hb2] at z'
        rw [nvL_inj (HO.lst.inj (Option.some.inj z'))]
      · rw [← ints_inj z]; exact hb
    rw [same]
    refine eq_lists p3.isList p2.isList r3.ints r2.ints (by show X.A.units + 1 < cLine; exact hu) fun e => ?_
    subst e
    rw [hb'] at ha'
    have := HO.lst.inj (Option.some.inj ha')
    rw [← nvL_ints, ← nvL_ints] at this
    rw [nvL_inj this]
  · show Value.bool _ = Value.bool _
    congr 1
    rw [show us.toArray.any (holdsV H o) = us.any (holdsV H o) by simp, any_holds hE r1]
end
end Sm
end
section
set_option Elab.async false
set_option linter.all false
set_option maxRecDepth 100000
set_option maxHeartbeats 2000000
/-! sorted(xs) of a list of lists of ints: the sort asks its keys alone by «less»; a second run over the same pairs, in a heap of bare rows that are told apart by their lengths, tells what the first one does -/
namespace Sm
open PySem PyProof.Rows
abbrev twoK : SortKind := tuples' true
def toOne (st : SortSt) : SortSt := SortSt.mk' oneType' (arrOf st) (pendingOf st) (gallopOf st) (failedOf st)
section
variable {M : Model} {G : Ctx} {s1 s2 : Shared}
/-- what the second run (s2, kind twoK) reaches, the first one (s1, kind oneType') does too -/
def Sim (M : Model) (G : Ctx) (s1 s2 : Shared) {α : Type} (m2 m1 : StateT SortSt Sem α) : Prop :=
  ∀ (st : SortSt) (p2 p1 : Pos) (E2 E1 : Value → Pos → Shared → Prop) (R : α → SortSt → Pos → Shared → Prop), kindOf st = twoK →
    Sem.wp M G (m2.run st) (fun r p s => R r.1 r.2 p s) E2 p2 s2 →
    Sem.wp M G (m1.run (toOne st)) (fun r _ s => s = s1 ∧ ∃ st' p', r.2 = toOne st' ∧ kindOf st' = twoK ∧ R r.1 st' p' s2) E1 p1 s1
theorem sim_pure {α : Type} (a : α) : Sim M G s1 s2 (pure a) (pure a) := by
  intro st p2 p1 E2 E1 R hk h
  rw [StateT.run_pure, Sem.wp_pure'] at h
  rw [StateT.run_pure, Sem.wp_pure']
  exact ⟨rfl, st, p2, rfl, hk, h⟩
theorem sim_bind {α β : Type} {m2 m1 : StateT SortSt Sem α} {f2 f1 : α → StateT SortSt Sem β} (h : Sim M G s1 s2 m2 m1) (hf : ∀ a, Sim M G s1 s2 (f2 a) (f1 a)) : Sim M G s1 s2 (m2 >>= f2) (m1 >>= f1) := by
  intro st p2 p1 E2 E1 R hk hw
  rw [StateT.run_bind, Sem.wp_bind'] at hw
  rw [StateT.run_bind, Sem.wp_bind']
  refine Sem.wp_mono M G _ ?_ (fun _ _ _ z => z) _ _ (h st p2 p1 E2 E1 (fun a st' p s => Sem.wp M G ((f2 a).run st') (fun r p s => R r.1 r.2 p s) E2 p s) hk hw)
  rintro ⟨a, u⟩ p s ⟨es, st', p', eu, hk', hr⟩
  dsimp only at eu hr ⊢
  subst es eu
  exact hf a st' p' p E2 E1 R hk' hr
theorem sim_get {β : Type} {f2 f1 : SortSt → StateT SortSt Sem β} (h : ∀ st, kindOf st = twoK → Sim M G s1 s2 (f2 st) (f1 (toOne st))) : Sim M G s1 s2 (get >>= f2) (get >>= f1) := by
  intro st p2 p1 E2 E1 R hk hw
  rw [StateT.run_bind, StateT.run_get, pure_bind] at hw
  rw [StateT.run_bind, StateT.run_get, pure_bind]
  exact h st hk st p2 p1 E2 E1 R hk hw
theorem sim_self {α : Type} {m2 m1 : StateT SortSt Sem α} (e : m1 = m2) (h : Sim M G s1 s2 m2 m2) : Sim M G s1 s2 m2 m1 := by
  rw [e]; exact h
theorem sim_modify {f : SortSt → SortSt} (e : ∀ st, f (toOne st) = toOne (f st)) (k : ∀ st, kindOf (f st) = kindOf st) : Sim M G s1 s2 (modify f) (modify f) := by
  intro st p2 p1 E2 E1 R hk hw
  rw [StateT.run_modify, Sem.wp_pure'] at hw
  rw [StateT.run_modify, Sem.wp_pure']
  exact ⟨rfl, f st, p2, e st, (k st).trans hk, hw⟩
theorem sim_set {u2 u1 : SortSt} (e : u1 = toOne u2) (k : kindOf u2 = twoK) : Sim M G s1 s2 (set u2) (set u1) := by
  intro st p2 p1 E2 E1 R hk hw
  rw [StateT.run_set, Sem.wp_pure'] at hw
  rw [StateT.run_set, Sem.wp_pure']
  exact ⟨rfl, u2, p2, e, k, hw⟩
theorem wp_lift {σ α : Type} (m : Sem α) (st : σ) (Q : α × σ → Pos → Shared → Prop) (E : Value → Pos → Shared → Prop) (p : Pos) (s : Shared) :
    Sem.wp M G ((liftM m : StateT σ Sem α).run st) Q E p s = Sem.wp M G m (fun a p s => Q (a, st) p s) E p s := by
  show Sem.wp M G ((StateT.lift m : StateT σ Sem α).run st) Q E p s = _
  rw [StateT.run_lift, Sem.wp_bind']
  simp only [Sem.wp_pure']
theorem sim_rule (n : String) : Sim M G s1 s2 (liftM (rule n) : StateT SortSt Sem Unit) (liftM (rule n)) := by
  intro st p2 p1 E2 E1 R hk hw
  rw [wp_lift] at hw
  rw [wp_lift]
  unfold rule at hw ⊢
  rw [Sem.wp_rule, Sem.wp_pure] at hw
  rw [Sem.wp_rule, Sem.wp_pure]
  exact ⟨rfl, st, p2, rfl, hk, hw⟩
theorem sim_stop {α : Type} (n : String) (m : StateT SortSt Sem α) : Sim M G s1 s2 (liftM (unsupported n : Sem α)) m := by
  intro st p2 p1 E2 E1 R hk hw
  rw [wp_lift] at hw
  unfold unsupported at hw
  rw [Sem.wp_unsupported] at hw
  exact hw.elim
theorem sim_ite {α : Type} {c : Prop} [Decidable c] {a2 a1 b2 b1 : StateT SortSt Sem α} (h1 : c → Sim M G s1 s2 a2 a1) (h2 : ¬ c → Sim M G s1 s2 b2 b1) : Sim M G s1 s2 (if c then a2 else b2) (if c then a1 else b1) := by
  by_cases h : c
  · rw [if_pos h, if_pos h]; exact h1 h
  · rw [if_neg h, if_neg h]; exact h2 h
theorem sim_each {β : Type} {f2 f1 : Nat → β → StateT SortSt Sem (ForInStep β)} (h : ∀ i b, Sim M G s1 s2 (f2 i b) (f1 i b)) : ∀ (l : List Nat) (b : β), Sim M G s1 s2 (forIn l b f2) (forIn l b f1)
  | [], b => by
    rw [List.forIn_nil, List.forIn_nil]
    exact sim_pure b
  | x :: l, b => by
    rw [List.forIn_cons, List.forIn_cons]
    refine sim_bind (h x b) fun r => ?_
    cases r with
    | done c => exact sim_pure c
    | yield c => exact sim_each h l c
theorem sim_range {β : Type} {f2 f1 : Nat → β → StateT SortSt Sem (ForInStep β)} {a b : Nat} {c : β} (h : ∀ i x, Sim M G s1 s2 (f2 i x) (f1 i x)) : Sim M G s1 s2 (forIn [a:b] c f2) (forIn [a:b] c f1) := by
  rw [Std.Legacy.Range.forIn_eq_forIn_range', Std.Legacy.Range.forIn_eq_forIn_range']
  exact sim_each h _ c
theorem sim_elem (arr : Array Keyed) (i : Nat) : Sim M G s1 s2 (elem' arr i) (elem' arr i) := by
  rw [elem'_eq]
  cases arr[i]? with
  | some p => exact sim_pure p
  | none => exact sim_stop _ _
/-- how the two runs' questions are answered -/
structure Asks (M : Model) (G : Ctx) (s1 s2 : Shared) (r : Value → Option Nat) : Prop where
  two : ∀ (x y : Value) (p : Pos) (E : Value → Pos → Shared → Prop) (Q : Bool → Pos → Shared → Prop), Sem.wp M G (keyLt' twoK x y) Q E p s2 → ∃ i j p', r x = some i ∧ r y = some j ∧ Q (decide (i < j)) p' s2
  one : ∀ (x y : Value) (i j : Nat) (p : Pos) (E : Value → Pos → Shared → Prop), r x = some i → r y = some j → Sem.wp M G (keyLt' oneType' x y) (fun b _ s => b = decide (i < j) ∧ s = s1) E p s1
variable {r : Value → Option Nat}
theorem sim_lt (K : Asks M G s1 s2 r) (x y : Keyed) : Sim M G s1 s2 (lt' x y) (lt' x y) := by
  intro st p2 p1 E2 E1 R hk hw
  rw [lt'_eq, StateT.run_bind, StateT.run_get, pure_bind, StateT.run_bind, Sem.wp_bind', wp_lift, Sem.wp_attempt, hk] at hw
  rw [lt'_eq, StateT.run_bind, StateT.run_get, pure_bind, StateT.run_bind, Sem.wp_bind', wp_lift, Sem.wp_attempt]
  obtain ⟨i, j, p', hi, hj, q⟩ := K.two x.1 y.1 p2 _ _ hw
  refine Sem.wp_mono M G _ ?_ (fun _ _ _ z => z) _ _ (K.one x.1 y.1 i j p1 _ hi hj)
  rintro b p s ⟨rfl, rfl⟩
  dsimp only at q ⊢
  rw [StateT.run_pure, Sem.wp_pure'] at q
  rw [StateT.run_pure, Sem.wp_pure']
  exact ⟨rfl, st, p', rfl, hk, q⟩
theorem sim_ltAt (K : Asks M G s1 s2 r) (i j : Nat) : Sim M G s1 s2 (ltAt' i j) (ltAt' i j) := by
  rw [ltAt'_eq]
  refine sim_get fun st _ => ?_
  exact sim_bind (sim_elem _ _) fun x => sim_bind (sim_elem _ _) fun y => sim_lt K x y
theorem sim_reverse (i j : Nat) : Sim M G s1 s2 (reverseSlice' i j) (reverseSlice' i j) := by
  rw [reverseSlice'_eq]
  exact sim_modify (fun _ => rfl) (fun _ => rfl)
theorem sim_move (i j : Nat) : Sim M G s1 s2 (moveDown' i j) (moveDown' i j) := by
  rw [moveDown'_eq]
  exact sim_modify (fun _ => rfl) (fun _ => rfl)
theorem sim_gal (g : Nat) : Sim M G s1 s2 (setMinGallop' g) (setMinGallop' g) := by
  rw [setMinGallop'_eq]
  exact sim_modify (fun _ => rfl) (fun _ => rfl)
theorem sim_beyond (K : Asks M G s1 s2 r) (left : Bool) (key : Keyed) (arr : Array Keyed) (base i : Nat) : Sim M G s1 s2 (beyond' left key arr base i) (beyond' left key arr base i) := by
  unfold beyond'
  refine sim_bind (sim_elem _ _) fun x => sim_ite (fun _ => sim_lt K _ _) (fun _ => sim_bind (sim_lt K _ _) fun y => sim_pure _)
theorem sim_gallop (K : Asks M G s1 s2 r) (left : Bool) (key : Keyed) (arr : Array Keyed) (base n hint : Nat) : Sim M G s1 s2 (gallop' left key arr base n hint) (gallop' left key arr base n hint) := by
  rw [gallop'_eq]
  repeat' (first
    | with_reducible exact sim_pure _
    | with_reducible exact sim_beyond K _ _ _ _ _
    | with_reducible refine sim_range (fun _ x => ?_)
    | with_reducible refine sim_ite (fun _ => ?_) (fun _ => ?_)
    | with_reducible refine sim_bind ?_ (fun x => ?_)
    | (rcases (x : Option _) with _ | x <;> dsimp only)
    | (rcases (x : Prod _ _) with ⟨x, y⟩; dsimp only)
    | dsimp only)
theorem sim_binary (K : Asks M G s1 s2 r) (lo n ok : Nat) : Sim M G s1 s2 (binarySort' lo n ok) (binarySort' lo n ok) := by
  rw [binarySort'_eq]
  repeat' (first
    | with_reducible exact sim_pure _
    | with_reducible exact sim_ltAt K _ _
    | with_reducible exact sim_move _ _
    | with_reducible refine sim_range (fun _ x => ?_)
    | with_reducible refine sim_ite (fun _ => ?_) (fun _ => ?_)
    | with_reducible refine sim_bind ?_ (fun x => ?_)
    | (rcases (x : Option _) with _ | x <;> dsimp only)
    | (rcases (x : Prod _ _) with ⟨x, y⟩; dsimp only)
    | dsimp only)
theorem sim_count (K : Asks M G s1 s2 r) (lo nrem : Nat) : Sim M G s1 s2 (countRun' lo nrem) (countRun' lo nrem) := by
  rw [countRun'_eq]
  repeat' (first
    | with_reducible exact sim_pure _
    | with_reducible exact sim_ltAt K _ _
    | with_reducible exact sim_reverse _ _
    | with_reducible exact sim_rule _
    | with_reducible refine sim_range (fun _ x => ?_)
    | with_reducible refine sim_ite (fun _ => ?_) (fun _ => ?_)
    | with_reducible refine sim_bind ?_ (fun x => ?_)
    | (rcases (x : Option _) with _ | x <;> dsimp only)
    | (rcases (x : Prod _ _) with ⟨x, y⟩; dsimp only)
    | dsimp only)
theorem gallop_one (st : SortSt) : gallopOf (toOne st) = gallopOf st := rfl
theorem sim_mergeLo (K : Asks M G s1 s2 r) (a b : Array Keyed) : Sim M G s1 s2 (mergeLo' a b) (mergeLo' a b) := by
  rw [mergeLo'_eq]
  repeat' (first
    | with_reducible exact sim_pure _
    | with_reducible exact sim_lt K _ _
    | with_reducible exact sim_elem _ _
    | with_reducible exact sim_gallop K _ _ _ _ _ _
    | with_reducible exact sim_gal _
    | with_reducible exact sim_rule _
    | with_reducible exact sim_stop _ _
    | (with_reducible refine sim_get (fun x _ => ?_); simp only [gallop_one])
    | with_reducible refine sim_range (fun _ x => ?_)
    | with_reducible refine sim_ite (fun _ => ?_) (fun _ => ?_)
    | with_reducible refine sim_bind ?_ (fun x => ?_)
    | (rcases (x : Option _) with _ | x <;> dsimp only)
    | (rcases (x : Prod _ _) with ⟨x, y⟩; dsimp only)
    | dsimp only)
theorem sim_mergeHi (K : Asks M G s1 s2 r) (a b : Array Keyed) : Sim M G s1 s2 (mergeHi' a b) (mergeHi' a b) := by
  rw [mergeHi'_eq]
  repeat' (first
    | with_reducible exact sim_pure _
    | with_reducible exact sim_lt K _ _
    | with_reducible exact sim_elem _ _
    | with_reducible exact sim_gallop K _ _ _ _ _ _
    | with_reducible exact sim_gal _
    | with_reducible exact sim_rule _
    | with_reducible exact sim_stop _ _
    | (with_reducible refine sim_get (fun x _ => ?_); simp only [gallop_one])
    | with_reducible refine sim_range (fun _ x => ?_)
    | with_reducible refine sim_ite (fun _ => ?_) (fun _ => ?_)
    | with_reducible refine sim_bind ?_ (fun x => ?_)
    | (rcases (x : Option _) with _ | x <;> dsimp only)
    | (rcases (x : Prod _ _) with ⟨x, y⟩; dsimp only)
    | dsimp only)
theorem arr_one (st : SortSt) : arrOf (toOne st) = arrOf st := rfl
theorem pend_one (st : SortSt) : pendingOf (toOne st) = pendingOf st := rfl
theorem fail_one (st : SortSt) : failedOf (toOne st) = failedOf st := rfl
theorem sim_mergeAt (K : Asks M G s1 s2 r) (i : Nat) : Sim M G s1 s2 (mergeAt' i) (mergeAt' i) := by
  rw [mergeAt'_eq]
  refine sim_get (fun w hw => ?_)
  simp only [pend_one, arr_one, gallop_one, fail_one]
  generalize (pendingOf w)[i]? = u
  generalize (pendingOf w)[i + 1]? = v
  rcases u with _ | ⟨sa, na, pw⟩
  · exact sim_stop _ _
  · rcases v with _ | ⟨sb, nb, pw2⟩
    · exact sim_stop _ _
    · dsimp only
      refine sim_bind (sim_set rfl hw) (fun _ => ?_)
      repeat' (first
        | with_reducible exact sim_pure _
        | with_reducible exact sim_elem _ _
        | with_reducible exact sim_gallop K _ _ _ _ _ _
        | with_reducible exact sim_mergeLo K _ _
        | with_reducible exact sim_mergeHi K _ _
        | with_reducible exact sim_modify (fun _ => rfl) (fun _ => rfl)
        | (with_reducible refine sim_get (fun x _ => ?_); simp only [fail_one])
        | with_reducible refine sim_ite (fun _ => ?_) (fun _ => ?_)
        | with_reducible refine sim_bind ?_ (fun x => ?_)
        | (rcases (x : Option _) with _ | x <;> dsimp only)
        | dsimp only)
theorem sim_runs (K : Asks M G s1 s2 r) : Sim M G s1 s2 sortRuns' sortRuns' := by
  rw [sortRuns'_eq]
  refine sim_get (fun w _ => sim_self rfl ?_)
  repeat' (first
    | with_reducible exact sim_pure _
    | with_reducible exact sim_rule _
    | with_reducible exact sim_count K _ _
    | with_reducible exact sim_binary K _ _ _
    | with_reducible exact sim_mergeAt K _
    | with_reducible exact sim_modify (fun _ => rfl) (fun _ => rfl)
    | (with_reducible refine sim_get (fun v _ => ?_); refine sim_self rfl ?_)
    | with_reducible refine sim_range (fun _ x => ?_)
    | with_reducible refine sim_ite (fun _ => ?_) (fun _ => ?_)
    | with_reducible refine sim_bind ?_ (fun x => ?_)
    | (rcases (x : Option _) with _ | x <;> dsimp only)
    | (rcases (x : Prod _ _) with ⟨x, y⟩; dsimp only)
    | ((conv in (Array.back? (pendingOf v)) => skip); generalize (pendingOf v).back? = x)
    | ((conv in (if (pendingOf v).size > 1 then (pendingOf v)[(pendingOf v).size - 2]? else none) => skip); generalize (if (pendingOf v).size > 1 then (pendingOf v)[(pendingOf v).size - 2]? else none) = x)
    | dsimp only)
end
end Sm
end
section
set_option Elab.async false
set_option linter.all false
set_option maxRecDepth 100000
set_option maxHeartbeats 2000000
/-! a list of ints is less than another -/
namespace Sm
open PySem PySem.Spec PyProof.Rows
def lexI : List Int → List Int → Bool
  | _, [] => false
  | [], _ :: _ => true
  | x :: r, y :: t => if x = y then lexI r t else decide (x < y)
theorem lexI_nats : ∀ a b : List Nat, lexI (Si81.ints a) (Si81.ints b) = decide (a < b)
  | [], [] => by simp [lexI, Si81.ints]
  | x :: a, [] => by simp [lexI, Si81.ints]
  | [], y :: b => by simp [lexI, Si81.ints]
  | x :: a, y :: b => by
    show (if (x : Int) = (y : Int) then lexI (Si81.ints a) (Si81.ints b) else decide ((x : Int) < (y : Int))) = _
    rw [lexI_nats a b]
    by_cases c : x = y
    · subst c
      rw [if_pos rfl]
      exact decide_eq_decide.mpr (by simp [List.cons_lt_cons_iff])
    · rw [if_neg (by omega)]
      refine decide_eq_decide.mpr ?_
      rw [List.cons_lt_cons_iff]
      omega
theorem lt_loop (l b : Addr) (us vs : List Value) (ns ms : List Int) (n n2 : Nat) (dd dd2 : Option Addr) (sl sl2 : Array (Option Value)) (i1 : IntsAre us ns) (i2 : IntsAre vs ms) : ∀ (k i : Nat), us.length - i = k → i ≤ us.length → i ≤ vs.length →
    Meets (Builtin.«list.__eq__.loop» ⟨[.ref l, .ref b, rawInt i, rawInt 0], []⟩)
      (fun _ R s => s.heap.get? l = some { cls := .type "list", dict := dd, data := .seq us.toArray n, slots := sl } ∧ s.heap.get? b = some { cls := .type "list", dict := dd2, data := .seq vs.toArray n2, slots := sl2 } ∧
        R (.ok (.ret (.bool (lexI (ns.drop i) (ms.drop i))))) s) := by
  obtain ⟨l1, g1⟩ := ints_at i1
  obtain ⟨l2, g2⟩ := ints_at i2
  intro k
  induction k with
  | zero =>
    intro i hk h1 h2 prog w A R s h
    obtain ⟨hp, g, d, tk, os⟩ := s
    obtain ⟨k1, k2, h⟩ := h
    wp_walk using AutoSeq1.wpAny_loadPart' k1, AutoSeq1.wpAny_loadPart' k2
    have e1 : us.toArray[((i : Nat) : Int).toNat]? = none := by simp; omega
    rw [e1]
    wp_walk using AutoSeq1.wpAny_loadPart' k1, AutoSeq1.wpAny_loadPart' k2
    show R (.ok (.ret (.bool (decide (us.toArray.size < vs.toArray.size))))) _
    have en : ns.drop i = [] := List.drop_eq_nil_iff.mpr (by omega)
    rw [en] at h
    have : decide (us.toArray.size < vs.toArray.size) = lexI [] (ms.drop i) := by
      simp only [List.size_toArray]
      cases em : ms.drop i with
      | nil =>
        have := List.drop_eq_nil_iff.mp em
        exact decide_eq_false (by omega)
      | cons y t =>
        have hl := congrArg List.length em
        rw [List.length_drop, List.length_cons] at hl
        exact decide_eq_true (by omega)
    rw [this]
    exact h
  | succ k ih =>
    intro i hk h1 h2 prog w A R s h
    obtain ⟨hp, g, d, tk, os⟩ := s
    obtain ⟨k1, k2, h⟩ := h
    wp_walk using AutoSeq1.wpAny_loadPart' k1, AutoSeq1.wpAny_loadPart' k2
    have lt1 : i < us.length := by omega
    obtain ⟨t1, e1⟩ := g1 i lt1
    have e1' : us.toArray[((i : Nat) : Int).toNat]? = some (.int (ns.getD i 0) t1) := by
      have : us[i]? = some (.int (ns.getD i 0) t1) := by rw [List.getElem?_eq_getElem lt1, e1]
      simpa using this
    have en : ns.drop i = ns.getD i 0 :: ns.drop (i + 1) := by
      have hlt : i < ns.length := by omega
      rw [List.drop_eq_getElem_cons hlt, List.getD_eq_getElem?_getD, List.getElem?_eq_getElem hlt]
      rfl
    by_cases lt2 : i < vs.length
    · obtain ⟨t2, e2⟩ := g2 i lt2
      have e2' : vs.toArray[((i : Nat) : Int).toNat]? = some (.int (ms.getD i 0) t2) := by
        have : vs[i]? = some (.int (ms.getD i 0) t2) := by rw [List.getElem?_eq_getElem lt2, e2]
        simpa using this
      have em : ms.drop i = ms.getD i 0 :: ms.drop (i + 1) := by
        have hlt : i < ms.length := by omega
        rw [List.drop_eq_getElem_cons hlt, List.getD_eq_getElem?_getD, List.getElem?_eq_getElem hlt]
        rfl
      rw [e1', e2']
      refine wpAny_bind (SeqAt.EqAt.int_int (A := A.in1) (ns.getD i 0) t1 (ms.getD i 0) t2 prog w _ _ ?_)
      rw [en, em] at h
      by_cases c : ns.getD i 0 = ms.getD i 0
      · have cb : (ns.getD i 0 == ms.getD i 0) = true := beq_iff_eq.mpr c
        rw [cb]
        have e : lexI (ns.getD i 0 :: ns.drop (i + 1)) (ms.getD i 0 :: ms.drop (i + 1)) = lexI (ns.drop (i + 1)) (ms.drop (i + 1)) := if_pos c
        rw [e] at h
        wp_walk
        have hc : ((i : Int) + 1) = ((i + 1 : Nat) : Int) := by omega
        rw [hc]
        refine ⟨plainId_quiet MeetsSeq3.plain_eq_loop _, codeAny_builtin MeetsSeq3.entry_eq_loop ?_⟩
        rw [Around.under_plainId MeetsSeq3.plain_eq_loop _]
        exact ih (i + 1) (by omega) (by omega) (by omega) prog w A R _ ⟨k1, k2, h⟩
      · have cb : (ns.getD i 0 == ms.getD i 0) = false := beq_eq_false_iff_ne.mpr c
        rw [cb]
        have e : lexI (ns.getD i 0 :: ns.drop (i + 1)) (ms.getD i 0 :: ms.drop (i + 1)) = decide (ns.getD i 0 < ms.getD i 0) := if_neg c
        rw [e] at h
        wp_walk using AutoSeq1.wpAny_loadPart' k1, AutoSeq1.wpAny_loadPart' k2
        rw [e1', e2']
        show wpAny (model prog w) A.in1 (compareOp .Lt (.int (ns.getD i 0) t1) (.int (ms.getD i 0) t2) >>= fun v => ret v) _ _ _
        exact wpAny_bind (lt_int (wpAny_pure h))
    · have e2' : vs.toArray[((i : Nat) : Int).toNat]? = none := by simp; omega
      rw [e1', e2']
      wp_walk using AutoSeq1.wpAny_loadPart' k1, AutoSeq1.wpAny_loadPart' k2
      show R (.ok (.ret (.bool (decide (us.toArray.size < vs.toArray.size))))) _
      have em : ms.drop i = [] := List.drop_eq_nil_iff.mpr (by omega)
      rw [em, en] at h
      have : decide (us.toArray.size < vs.toArray.size) = lexI (ns.getD i 0 :: ns.drop (i + 1)) [] := by
        simp only [List.size_toArray]
        exact decide_eq_false (by omega)
      rw [this]
      exact h
end Sm
end
section
set_option Elab.async false
set_option linter.all false
set_option maxRecDepth 100000
set_option maxHeartbeats 2000000
/-! sorted(xs), xs a list of lists of naturals -/
namespace Sm
open PySem PySem.Spec PyProof.Rows
section
variable {prog : Program} {w : World} {A : Around} {E : Value → Shared → Prop} {s : Shared}
theorem call_lt {a b : Addr} {us vs : List Value} {ns ms : List Int} {Q : Value → Shared → Prop} (ha : s.heap.IsList a us.toArray) (hb : s.heap.IsList b vs.toArray) (i1 : IntsAre us ns) (i2 : IntsAre vs ms) (h : Q (.bool (lexI ns ms)) s) :
    wpAny (model prog w) A (call (.builtin "list.__lt__") [.ref a, .ref b]) Q E s := by
  obtain ⟨⟨c1, d1, x1, y1⟩, o1, hc1, n1, e1⟩ := id ha
  obtain ⟨⟨c2, d2, x2, y2⟩, o2, hc2, n2, e2⟩ := id hb
  simp only at hc1 e1 hc2 e2
  subst hc1 e1 hc2 e2
  have M : Meets (Builtin.«list.__lt__» ⟨[.ref a, .ref b], []⟩) (fun _ R s => s.heap.get? a = some { cls := .type "list", dict := d1, data := .seq us.toArray n1, slots := y1 } ∧ s.heap.get? b = some { cls := .type "list", dict := d2, data := .seq vs.toArray n2, slots := y2 } ∧
      R (.ok (.ret (.bool (lexI ns ms)))) s) := by
    intro prog w A R s h
    obtain ⟨hp, g, d, tk, os⟩ := s
    obtain ⟨k1, k2, h⟩ := h
    have f3 := AutoSeq1.sub_list_list
    wp_walk using AutoSeq1.wpAny_loadPart' k1, AutoSeq1.wpAny_loadPart' k2
    refine ⟨plainId_quiet MeetsSeq3.plain_eq_loop _, codeAny_builtin MeetsSeq3.entry_eq_loop ?_⟩
    rw [Around.under_plainId MeetsSeq3.plain_eq_loop _]
    exact lt_loop a b us vs ns ms n1 n2 d1 d2 y1 y2 i1 i2 _ 0 rfl (Nat.zero_le _) (Nat.zero_le _) prog w A R _ ⟨k1, k2, h⟩
  exact call_meets PySem.F.slot_list_lt ⟨_, o1, rfl⟩ PySem.F.entry_list_lt (PySem.F.args_list_lt_2 _ _) M ⟨o1, o2, h⟩
theorem key_lt {a b : Addr} {us vs : List Value} {ns ms : List Int} {Q : Bool → Shared → Prop} (ha : s.heap.IsList a us.toArray) (hb : s.heap.IsList b vs.toArray) (i1 : IntsAre us ns) (i2 : IntsAre vs ms) (hu : A.units < cLine) (h : Q (lexI ns ms) s) :
    wpAny (model prog w) A (keyLt' oneType' (.ref a) (.ref b)) Q E s := by
  rw [keyLt'_oneType, oneLt'_eq]
  simp only [if_true]
  refine wpAny_bind (wpAny_cRoomFor hu (wpAny_bind (wpAny_callSpecialIfBound?_slot ha.typeIs PySem.F.slot_list_lt (call_lt ha hb i1 i2 ?_))))
  exact wpAny_truthy_bool h
end
/-! ### the heap of bare rows -/
def bareObj (k : Nat) : Obj := { cls := .type "list", data := .seq (List.replicate k Value.none).toArray 0 }
def goneObj : Obj := { cls := .type "list", data := .freed }
def bareOf (r : Nat → Option Nat) (a : Nat) : Obj := match r a with
  | some k => bareObj k
  | none => goneObj
def bare (N : Nat) (r : Nat → Option Nat) (l : Life) : Heap := ⟨((List.range N).map (bareOf r)).toArray, l⟩
theorem bare_get {N : Nat} {r : Nat → Option Nat} {l : Life} {a : Addr} {o : Obj} (h : (bare N r l).get? a = some o) : ∃ k, r a = some k ∧ o = bareObj k := by
  unfold Heap.get? bare at h
  simp only [List.getElem?_toArray, List.getElem?_map] at h
  by_cases c : a < N
  · rw [List.getElem?_range c] at h
    simp only [Option.map_some] at h
    unfold bareOf at h
    cases e : r a with
    | none => rw [e] at h; cases h
    | some k =>
      rw [e] at h
      exact ⟨k, rfl, (Option.some.inj h).symm⟩
  · rw [List.getElem?_eq_none (by rw [List.length_range]; exact Nat.le_of_not_lt c)] at h
    cases h
theorem bare_at {N : Nat} {r : Nat → Option Nat} {l : Life} {a k : Nat} (c : a < N) (h : r a = some k) : (bare N r l).get? a = some (bareObj k) := by
  unfold Heap.get? bare
  simp only [List.getElem?_toArray, List.getElem?_map]
  rw [List.getElem?_range c]
  simp only [Option.map_some]
  unfold bareOf
  rw [h]
  rfl
section
variable {M : Model} {G : PySem.Ctx}
theorem wp_items {v : Value} {s : Shared} {p : Pos} {E : Value → Pos → Shared → Prop} {Q : Array Value → Pos → Shared → Prop} (h : Sem.wp M G (Builtin.List.listItems v) Q E p s) : ∃ a o xs n, v = .ref a ∧ s.heap.get? a = some o ∧ o.data = .seq xs n ∧ Q xs p s := by
  unfold Builtin.List.listItems at h
  rw [Sem.wp_bind'] at h
  unfold seqItems? at h
  cases v with
  | ref a =>
    dsimp only at h
    rw [Sem.wp_bind'] at h
    unfold load at h
    rw [Sem.wp_load] at h
    obtain ⟨o, ho, h⟩ := h
    rw [Sem.wp_pure] at h
    cases e : o.data with
    | seq xs n =>
      rw [e] at h
      dsimp only at h
      rw [Sem.wp_pure', Sem.wp_pure'] at h
      exact ⟨a, o, xs, n, rfl, ho, e, h⟩
    | _ =>
      rw [e] at h
      dsimp only at h
      rw [Sem.wp_pure'] at h
      exact absurd h (by unfold unsupported; rw [Sem.wp_unsupported]; exact fun z => z)
  | builtin id =>
    dsimp only at h
    rw [Sem.wp_bind'] at h
    unfold notAStandIn at h
    dsimp only at h
    split at h
    · exact absurd h (by unfold unsupported; rw [Sem.wp_unsupported]; exact fun z => z)
    · rw [Sem.wp_pure', Sem.wp_pure'] at h
      exact absurd h (by unfold unsupported; rw [Sem.wp_unsupported]; exact fun z => z)
  | _ =>
    dsimp only at h
    rw [Sem.wp_bind'] at h
    unfold notAStandIn at h
    dsimp only at h
    rw [Sem.wp_pure', Sem.wp_pure'] at h
    exact absurd h (by unfold unsupported; rw [Sem.wp_unsupported]; exact fun z => z)
theorem none_none : eqBool Value.none Value.none = Sem.rule "eq-bool.same-object" (fun _ => Sem.pure true) := rfl
/-- rows of nothing but None: the loop says nothing -/
theorem wp_nones {s : Shared} {E : Value → Pos → Shared → Prop} {Q : Option Bool × Unit → Pos → Shared → Prop} {body : (Value × Value) × Nat → Option Bool × Unit → Sem (ForInStep (Option Bool × Unit))} (hb : ∀ i, body ((Value.none, Value.none), i) (none, ()) = Sem.rule "eq-bool.same-object" (fun _ => Sem.pure (.yield (none, ())))) :
    ∀ (l : List (Value × Value)) (i : Nat) (p : Pos), (∀ x ∈ l, x = (Value.none, Value.none)) → Sem.wp M G (forIn (l.zipIdx i) (none, ()) body) Q E p s = Q (none, ()) p s
  | [], i, p, _ => by
    rw [List.zipIdx_nil, List.forIn_nil, Sem.wp_pure']
  | x :: l, i, p, h => by
    have e := h x (.head _)
    subst e
    rw [List.zipIdx_cons, List.forIn_cons, Sem.wp_bind', hb, Sem.wp_rule, Sem.wp_pure]
    exact wp_nones hb l (i + 1) p fun y hy => h y (.tail _ hy)
theorem zip_nones (i j : Nat) : ∀ x ∈ (List.replicate i Value.none).toArray.toList.zip (List.replicate j Value.none).toArray.toList, x = (Value.none, Value.none) := by
  intro x hx
  obtain ⟨h1, h2⟩ := List.of_mem_zip (show (x.1, x.2) ∈ _ from hx)
  have e1 : x.1 = Value.none := List.eq_of_mem_replicate (by simpa using h1)
  have e2 : x.2 = Value.none := List.eq_of_mem_replicate (by simpa using h2)
  exact Prod.ext e1 e2
theorem ask_two {N : Nat} {r : Nat → Option Nat} {l : Life} {x y : Value} {s : Shared} {p : Pos} {E : Value → Pos → Shared → Prop} {Q : Bool → Pos → Shared → Prop} (hs : s.heap = bare N r l) (h : Sem.wp M G (keyLt' twoK x y) Q E p s) :
    ∃ a b i j, x = .ref a ∧ y = .ref b ∧ r a = some i ∧ r b = some j ∧ Q (decide (i < j)) p s := by
  rw [kat_lt_eq, Sem.wp_bind'] at h
  obtain ⟨a, o, xs, n, rfl, ho, eo, h⟩ := wp_items h
  rw [Sem.wp_bind'] at h
  obtain ⟨b, u, ys, m, rfl, hu, eu, h⟩ := wp_items h
  rw [hs] at ho hu
  obtain ⟨i, hi, rfl⟩ := bare_get ho
  obtain ⟨j, hj, rfl⟩ := bare_get hu
  cases eo
  cases eu
  refine ⟨a, b, i, j, rfl, rfl, hi, hj, ?_⟩
  rw [Sem.wp_bind', wp_nones (fun _ => rfl) _ _ _ (zip_nones i j)] at h
  dsimp only at h
  rw [Sem.wp_pure'] at h
  simpa using h
end
end Sm
end
section
set_option Elab.async false
set_option linter.all false
set_option maxRecDepth 100000
set_option maxHeartbeats 2000000
namespace Sm
open PySem PySem.Spec PyProof.Rows
/-! ### the kind of keys: rows by their lengths -/
def rowKey (r : Nat → Option Nat) : Value → Option Nat
  | .ref a => r a
  | _ => none
def rowKind (r : Nat → Option Nat) : KeyKind where
  α := Nat
  blt i j := decide (i < j)
  irrefl a := decide_eq_false (Nat.lt_irrefl a)
  trans a b c h1 h2 := decide_eq_true (Nat.lt_trans (of_decide_eq_true h1) (of_decide_eq_true h2))
  negTrans a b c h := by
    have h' := of_decide_eq_true h
    by_cases z : a < b
    · exact .inl (decide_eq_true z)
    · exact .inr (decide_eq_true (by omega))
  total a b h1 h2 := by
    have z1 := of_decide_eq_false h1
    have z2 := of_decide_eq_false h2
    omega
  keyOf := rowKey r
  dflt := (0 : Nat)
section
variable {prog : Program} {w : World} {A : Around} {E : Value → Shared → Prop} {s : Shared}
theorem kat_nones {b fin : Bool} {Q : Bool → Shared → Prop} : ∀ (l : List (Value × Value)) (i : Nat), (∀ x ∈ l, x = (Value.none, Value.none)) → Q fin s → PySem.W.KatLex prog w A b fin Q l i s
  | [], i, _, h => PySem.W.kat_nil h
  | x :: l, i, hx, h => by
    have e := hx x (.head _)
    subst e
    exact PySem.W.kat_cons (SeqAt.EqAt.same _ prog w _ _ (PySem.W.kat_yes (kat_nones l (i + 1) (fun y hy => hx y (.tail _ hy)) h)))
theorem row_lt {N : Nat} {r : Nat → Option Nat} {l : Life} (hs : s.heap = bare N r l) (hN : ∀ a k, r a = some k → a < N) : G.LtAt prog w s (rowKind r) twoK := by
  refine fun A E x y (i : Nat) (j : Nat) Q hx hy hq => ?_
  have hx' : rowKey r x = some i := hx
  have hy' : rowKey r y = some j := hy
  cases x with
  | ref a =>
    cases y with
    | ref b =>
      have ha : r a = some i := hx'
      have hb : r b = some j := hy'
      refine PySem.W.kat_lt (by rw [hs]; exact bare_at (hN a i ha) ha) rfl (by rw [hs]; exact bare_at (hN b j hb) hb) rfl (kat_nones _ _ (zip_nones i j) ?_)
      have : decide ((List.replicate i Value.none).toArray.size < (List.replicate j Value.none).toArray.size) = decide (i < j) := by simp
      rw [this]
      exact hq
    | _ => cases hy'
  | _ => cases hx'
/-- the sort's run over lists, told by the run over bare rows -/
theorem sort_run {pairs : Array Keyed} {N : Nat} {r : Nat → Option Nat} {Q : Unit → SortSt → Prop}
    (one : ∀ a b i j, r a = some i → r b = some j → wpAny (model prog w) A (keyLt' oneType' (.ref a) (.ref b)) (fun c s' => c = decide (i < j) ∧ s' = s) (fun _ _ => False) s)
    (hN : ∀ a k, r a = some k → a < N) (h0 : KeysOf (rowKind r) pairs) (h2 : 2 ≤ pairs.size)
    (h : ∀ st', (arrOf st').Perm pairs → failedOf st' = none → SortedToK (rowKind r) (arrOf st') pairs.size → Q () st') : wpS (model prog w) A E s sortRuns' Q (SortSt.mk' oneType' pairs #[] 7 none) := by
  have run2 : wpS (model prog w) A (fun _ _ => False) { s with heap := bare N r s.heap.life } sortRuns' (fun _ st' => (arrOf st').Perm pairs ∧ failedOf st' = none ∧ SortedToK (rowKind r) (arrOf st') pairs.size) (SortSt.mk' twoK pairs #[] 7 none) :=
    G.wpS_sortRunsSt (row_lt rfl hN) h0 ⟨Array.Perm.refl _, rfl, rfl⟩ rfl (Stable.refl _) h2 fun st' a1 a2 a3 _ => ⟨a1, a2, a3⟩
  intro G p hG
  have K : Asks (model prog w) G s { s with heap := bare N r s.heap.life } (rowKey r) := by
    refine ⟨fun x y p E Q hw => ?_, fun x y i j p E hi hj => ?_⟩
    · obtain ⟨a, b, i, j, rfl, rfl, hi, hj, q⟩ := ask_two rfl hw
      exact ⟨i, j, p, hi, hj, q⟩
    · cases x with
      | ref a =>
        cases y with
        | ref b => exact Sem.wp_mono (model prog w) G _ (fun _ _ _ z => z) (fun _ _ _ z => False.elim z) _ _ (one a b i j hi hj G p hG)
        | _ => cases hj
      | _ => cases hi
  have both := sim_runs K (SortSt.mk' twoK pairs #[] 7 none) p p _ (fun e _ s' => E e s') (fun _ st' _ s' => s' = { s with heap := bare N r s.heap.life } ∧ (arrOf st').Perm pairs ∧ failedOf st' = none ∧ SortedToK (rowKind r) (arrOf st') pairs.size) rfl (run2 G p hG)
  refine Sem.wp_mono (model prog w) G _ ?_ (fun _ _ _ z => z) _ _ both
  rintro ⟨⟨⟩, st1⟩ p1 s1 ⟨es, st', p', e1, _, _, a1, a2, a3⟩
  dsimp only at e1 ⊢
  subst e1
  exact ⟨es, h (toOne st') a1 a2 a3⟩
/-- list.sort of a list of lists -/
theorem sort_lists {a : Addr} {vs : List Value} {n N : Nat} {r : Nat → Option Nat} {P : PySem.Fin → Shared → Prop} (ho : s.heap.get? a = some (seqObj "list" vs.toArray n))
    (one : ∀ x y i j, r x = some i → r y = some j → wpAny (model prog w) A (keyLt' oneType' (.ref x) (.ref y)) (fun c s' => c = decide (i < j) ∧ s' = { s with heap := G.sortHeap6 s.heap a vs }) (fun _ _ => False) { s with heap := G.sortHeap6 s.heap a vs })
    (hT : ∀ v ∈ vs, PySem.W.Looks (model prog w) (G.sortHeap6 s.heap a vs) (typeOf v) (.type "list")) (hN : ∀ a k, r a = some k → a < N) (h0 : KeysOf (rowKind r) (pairsOf vs)) (hL : vs.length ≤ sizeLine)
    (h : ∀ arr : Array Keyed, arr.Perm (pairsOf vs) → SortedToK (rowKind r) arr (pairsOf vs).size → P (.done (.ret .none)) { s with heap := sortedHeap s.heap a vs (arr.map (·.2)) }) :
    wpAny (model prog w) A (Builtin.«list.sort» ⟨[.ref a], []⟩) P E s := by
  have sz := sizeLine_eq
  have hlt : a < s.heap.objs.size := Heap.lt_size ho
  rw [list_sort_plain]
  refine wpAny_bind (listItems_at ho rfl (wpAny_bind (listUpdate_at ho rfl ?_)))
  obtain ⟨e1, o1⟩ : ∃ e1, (s.heap.update a (Obj.mapSeq fun _ => #[])).get? a = some (seqObj "list" #[] e1) := ⟨_, get?_update_seq ho fun _ => #[]⟩
  refine wpAny_bind (seqEpoch_at o1 rfl (wpAny_bind (wpAny_newTuple (wpAny_bind (wpAny_newList (wpAny_holding ?_))))))
  have o6 : (G.sortHeap6 s.heap a vs).get? a = some (seqObj "list" #[] e1) := Heap.get?_push_of_some _ (Heap.get?_push_of_some _ o1)
  show wpAny (model prog w) A _ P E { s with heap := G.sortHeap6 s.heap a vs }
  dsimp only
  by_cases two : vs.toArray.size < 2
  · rw [if_pos two, if_pos two]
    refine wpAny_bind (wpAny_pure ?_)
    rw [StateT.run_pure]
    refine wpAny_bind (wpAny_pure ?_)
    dsimp only
    refine wpAny_bind (seqEpoch_at o6 rfl (wpAny_bind (listUpdate_at o6 rfl ?_ (hsz2 := by rw [Array.size_map]; show (pairsOf vs).size ≤ _; rw [pairsOf_size]; omega))))
    simp only [bne_self_eq_false, Bool.false_eq_true, if_false]
    refine wpAny_pure (h (pairsOf vs) (Array.Perm.refl _) fun i j hij hj => ?_)
    have two' : vs.length < 2 := by simpa using two
    rw [pairsOf_size] at hj
    have : i = j := by omega
    subst this
    exact KeyOrd.kle_refl _
  · have two' : 2 ≤ vs.length := by
      have : ¬ vs.length < 2 := by simpa using two
      omega
    rw [if_neg two, if_neg two]
    refine wpAny_bind (PySem.W.kas_kind (s := { s with heap := G.sortHeap6 s.heap a vs }) two' hT (by decide) (by decide) ?_)
    refine wpAny_bind (wpAny_mono (sort_run (pairs := pairsOf vs) (Q := fun _ st' => (arrOf st').Perm (pairsOf vs) ∧ failedOf st' = none ∧ SortedToK (rowKind r) (arrOf st') (pairsOf vs).size) one hN h0 (by rw [pairsOf_size]; exact two') fun st' a1 a2 a3 => ⟨a1, a2, a3⟩) ?_ fun _ _ e => e)
    rintro ⟨⟨⟩, st'⟩ s' ⟨rfl, hp, hf, hs⟩
    dsimp only
    have hsz : ((arrOf st').map (·.2)).size ≤ sizeLine + 1 := by
      rw [Array.size_map, hp.size_eq, pairsOf_size]
      omega
    refine wpAny_bind (seqEpoch_at o6 rfl (wpAny_bind (listUpdate_at o6 rfl ?_ (hsz2 := hsz))))
    rw [hf]
    simp only [bne_self_eq_false, Bool.false_eq_true, if_false]
    exact wpAny_pure (h (arrOf st') hp hs)
/-- sorted(l) -/
theorem sorted_lists {l : Addr} {vs : List Value} {N : Nat} {r : Nat → Option Nat} {Q : Value → Shared → Prop} (hl : s.heap.IsList l vs.toArray)
    (one : ∀ (A : Around) (s' : Shared), (∀ b o, s.heap.get? b = some o → s'.heap.get? b = some o) → A.units < cLine → ∀ x y i j, r x = some i → r y = some j → wpAny (model prog w) A (keyLt' oneType' (.ref x) (.ref y)) (fun c s2 => c = decide (i < j) ∧ s2 = s') (fun _ _ => False) s')
    (hT : ∀ v ∈ vs, ∃ b o, v = .ref b ∧ s.heap.get? b = some o ∧ o.cls = .type "list") (hN : ∀ a k, r a = some k → a < N) (h0 : KeysOf (rowKind r) (pairsOf vs)) (hL : vs.length ≤ sizeLine) (hu : A.units + 64 < cLine)
    (h : ∀ arr : Array Keyed, arr.Perm (pairsOf vs) → SortedToK (rowKind r) arr (pairsOf vs).size → Q (.ref (s.heap.objs.size + 1)) { s with heap := sortedAll s.heap vs (arr.map (·.2)) }) :
    wpAny (model prog w) A (call (.builtin "sorted") [.ref l]) Q E s := by
  refine Calls.call_function_entry kind_sorted plain_sorted entry_sorted (args_sorted1 _) ?_
  unfold Builtin.«sorted»
  refine wpAny_bind (m := checkCount "sorted" 1 1 _) (wpAny_pure (wpAny_bind (collect_list hl (wpAny_bind (wpAny_newList ?_)))))
  have size5 : ((s.heap.push (seqObj "list" #[] 0)).update s.heap.objs.size (Obj.mapSeq (· ++ vs.toArray))).objs.size = s.heap.objs.size + 1 := by rw [Heap.size_update, size_push']
  have o5 : (((s.heap.push (seqObj "list" #[] 0)).update s.heap.objs.size (Obj.mapSeq (· ++ vs.toArray))).push (seqObj "list" vs.toArray 0)).get? (s.heap.objs.size + 1) = some (seqObj "list" vs.toArray 0) := by rw [← size5]; exact Heap.get?_push_size _ rfl
  show wpAny (model prog w) _ _ _ _ { s with heap := ((s.heap.push (seqObj "list" #[] 0)).update s.heap.objs.size (Obj.mapSeq (· ++ vs.toArray))).push (seqObj "list" vs.toArray 0) }
  have keep : ∀ b o, s.heap.get? b = some o → (G.sortHeap6 (((s.heap.push (seqObj "list" #[] 0)).update s.heap.objs.size (Obj.mapSeq (· ++ vs.toArray))).push (seqObj "list" vs.toArray 0)) (s.heap.objs.size + 1) vs).get? b = some o := by
    intro b o e
    have hb : b < s.heap.objs.size := Heap.lt_size e
    refine Heap.get?_push_of_some _ (Heap.get?_push_of_some _ ?_)
    rw [Heap.get?_update_ne _ _ _ _ (Nat.ne_of_lt (Nat.lt_succ_of_lt hb))]
    refine Heap.get?_push_of_some _ ?_
    rw [Heap.get?_update_ne _ _ _ _ (Nat.ne_of_lt hb)]
    exact Heap.get?_push_of_some _ e
  rw [size5]
  refine wpAny_bind (wpAny_holding (wpAny_call_entry slot_list_sort ⟨_, o5, rfl⟩ entry_list_sort (sort_lists (N := N) (r := r) o5 ?_ ?_ hN h0 hL fun arr a1 a2 => ⟨_, rfl, ?_⟩) (args_list_sort _)))
  · intro x y i j hx hy
    refine one _ _ keep ?_ x y i j hx hy
    show _ + 1 + 1 < cLine
    omega
  · intro v hv
    obtain ⟨b, o, rfl, ho, hc⟩ := hT v hv
    rw [← hc]
    exact (PySem.W.Looks.ld (keep b o ho)).andThen .now
  · exact wpAny_pure ⟨_, rfl, h arr a1 a2⟩
end
end Sm
end
section
set_option Elab.async false
set_option linter.all false
set_option maxRecDepth 100000
set_option maxHeartbeats 2000000
namespace Sm
open PySem PySem.Spec L2
open PyProof.Rows hiding St
/-! ### how many of the rows are less -/
theorem count_less {α : Type} {p q : α → Bool} : ∀ (l : List α), (∀ k ∈ l, p k = true → q k = true) → l.countP p ≤ l.countP q ∧ ((∃ k ∈ l, q k = true ∧ p k = false) → l.countP p < l.countP q)
  | [], _ => ⟨Nat.le_refl _, fun ⟨k, hk, _⟩ => by cases hk⟩
  | x :: l, h => by
    obtain ⟨h1, h2⟩ := count_less l fun k hk => h k (.tail _ hk)
    have hx := h x (.head _)
    rw [List.countP_cons, List.countP_cons]
    cases ep : p x with
    | true =>
      rw [hx ep]
      refine ⟨by simp; omega, fun ⟨k, hk, e1, e2⟩ => ?_⟩
      rcases List.mem_cons.mp hk with e | hk
      · rw [e, ep] at e2; cases e2
      · have := h2 ⟨k, hk, e1, e2⟩
        simp; omega
    | false =>
      cases eq : q x with
      | true => exact ⟨by simp; omega, fun _ => by simp; omega⟩
      | false =>
        refine ⟨by simp; omega, fun ⟨k, hk, e1, e2⟩ => ?_⟩
        rcases List.mem_cons.mp hk with e | hk
        · rw [e, eq] at e1; cases e1
        · have := h2 ⟨k, hk, e1, e2⟩
          simp; omega
def rank (fs : List LN) (x : LN) : Nat := fs.countP fun k => decide (k < x)
theorem rank_lt {fs : List LN} {x y : LN} (hx : x ∈ fs) (h : x < y) : rank fs x < rank fs y :=
  (count_less fs fun k _ e => decide_eq_true (ln_trans (of_decide_eq_true e) h)).2 ⟨x, hx, decide_eq_true h, decide_eq_false (ln_irr x)⟩
theorem rank_dec {fs : List LN} {x y : LN} (hx : x ∈ fs) (hy : y ∈ fs) : decide (rank fs x < rank fs y) = decide (x < y) := by
  refine decide_eq_decide.mpr ⟨fun h => ?_, rank_lt hx⟩
  by_cases c : x < y
  · exact c
  · by_cases d : y < x
    · have := rank_lt hy d
      omega
    · rw [ln_tri x y c d] at h
      exact absurd h (Nat.lt_irrefl _)
/-! ### what stands at a place -/
open Classical in
noncomputable def natsOf (H : Hp) (a : Addr) : LN := if h : ∃ f, NatsAt H a f then h.choose else []
theorem natsOf_eq {H : Hp} {a : Addr} {f : LN} (h : NatsAt H a f) : natsOf H a = f := by
  have hx : ∃ f, NatsAt H a f := ⟨f, h⟩
  have e : natsOf H a = hx.choose := dif_pos hx
  have z : NatsAt H a hx.choose := hx.choose_spec
  rw [e]
  have same : ∀ g : LN, NatsAt H a g → g = f := fun g hg => nvL_inj (HO.lst.inj (Option.some.inj (Eq.trans (Eq.symm hg) h)))
  exact same _ z
theorem each_nats {H : Hp} : ∀ {as : List Addr} {fs : List LN}, Each (NatsAt H) as fs → fs = as.map (natsOf H) ∧ ∀ a ∈ as, NatsAt H a (natsOf H a)
  | _, _, .nil => ⟨rfl, fun a h => by cases h⟩
  | _, _, .cons p t => by
    obtain ⟨h1, h2⟩ := each_nats t
    refine ⟨by rw [List.map_cons, natsOf_eq p, ← h1], fun a ha => ?_⟩
    rcases List.mem_cons.mp ha with e | ha
    · rw [e, natsOf_eq p]; exact p
    · exact h2 a ha
theorem each_map {P : Addr → LN → Prop} {F : Addr → LN} : ∀ {as : List Addr}, (∀ a ∈ as, P a (F a)) → Each P as (as.map F)
  | [], _ => .nil
  | a :: as, h => .cons (h a (.head _)) (each_map fun b hb => h b (.tail _ hb))
theorem each_all {P : Addr → LN → Prop} {F : Addr → LN} : ∀ {as : List Addr}, Each P as (as.map F) → ∀ a ∈ as, P a (F a)
  | [], _, a, h => by cases h
  | b :: as, .cons p t, a, h => by
    rcases List.mem_cons.mp h with e | h
    · rw [e]; exact p
    · exact each_all t a h
theorem vals_refs : ∀ {as : List Addr} {us : List Value}, Vals (as.map V.ref) us → us = as.map Value.ref
  | [], _, .nil => rfl
  | a :: as, _, .cons r t => by
    have e : _ = Value.ref a := r
    rw [e, vals_refs t]
    rfl
theorem refs_vals : ∀ as : List Addr, Vals (as.map V.ref) (as.map Value.ref)
  | [] => .nil
  | _ :: as => .cons rfl (refs_vals as)
/-- the second parts of pairs that were made of references -/
theorem refs_of : ∀ l : List Keyed, (∀ p ∈ l, p.1 = p.2 ∧ ∃ a, p.1 = Value.ref a) → ∃ bs : List Addr, l = bs.map fun b => (Value.ref b, Value.ref b)
  | [], _ => ⟨[], rfl⟩
  | p :: l, h => by
    obtain ⟨bs, e⟩ := refs_of l fun q hq => h q (.tail _ hq)
    obtain ⟨h1, a, h2⟩ := h p (.head _)
    refine ⟨a :: bs, ?_⟩
    rw [List.map_cons, ← e]
    congr 1
    exact Prod.ext h2 (h1.symm.trans h2)
section
variable {X : Cx}
/-- sorted(xs), xs a list of lists of naturals -/
def rSortedL (K : PySem.W.Frag) : List V → Hp → VK → Prop := fun vs H Q => ∃ (q : Addr) (as : List Addr) (fs : List LN), vs = [.ref q] ∧ H q = some (.lst (as.map V.ref)) ∧ Each (NatsAt H) as fs ∧ fs.length ≤ sizeLine ∧
  ∀ (bs : List Addr) (gs : List LN) (p : Addr), gs.Perm fs → (gs.Pairwise fun a b => ¬ b < a) → (∀ P : Addr → LN → Prop, Each P as fs → Each P bs gs) → H p = none → Q (.ref p) (upd H p (.lst (bs.map V.ref)))
theorem cr_sortedL (hu : X.A.units + 64 < cLine) : CallR X (.builtin "sorted") (rSortedL X.K) := by
  intro pins s σ H vs us Q I r h
  obtain ⟨q, as, fs, rfl, hq, hE, hL, k⟩ := h
  obtain ⟨its, rv, hl, _⟩ := I.list (SqL.of (K := X.K) hq)
  have ei := vals_refs rv
  subst ei
  rw [Vals.ref1 r]
  obtain ⟨ef, hF⟩ := each_nats hE
  have hlen := hE.len
  let rk : Nat → Option Nat := fun a => if a ∈ as then some (rank fs (natsOf H a)) else none
  have rk_mem : ∀ a k, rk a = some k → a ∈ as ∧ k = rank fs (natsOf H a) := by
    intro a k e
    by_cases c : a ∈ as
    · have e' : (if a ∈ as then some (rank fs (natsOf H a)) else none) = some k := e
      rw [if_pos c] at e'
      exact ⟨c, (Option.some.inj e').symm⟩
    · have e' : (if a ∈ as then some (rank fs (natsOf H a)) else none) = some k := e
      rw [if_neg c] at e'
      cases e'
  have rk_at : ∀ a, a ∈ as → rk a = some (rank fs (natsOf H a)) := fun a c => if_pos c
  have mem_fs : ∀ a ∈ as, natsOf H a ∈ fs := fun a ha => by rw [ef]; exact List.mem_map.mpr ⟨a, ha, rfl⟩
  have there : ∀ a ∈ as, ∃ us : List Value, IntsAre us (Si81.ints (natsOf H a)) ∧ s.heap.IsList a us.toArray := by
    intro a ha
    have h1 := hF a ha
    have h2 : H a = some (.lst ((Si81.ints (natsOf H a)).map V.int)) := by rw [← nvL_ints]; exact h1
    obtain ⟨us, r1, p1, _⟩ := I.list (SqL.of (K := X.K) h2)
    exact ⟨us, r1.ints, p1.isList⟩
  have keys : ∀ p ∈ (pairsOf (as.map Value.ref)).toList, p.1 = p.2 ∧ ∃ a ∈ as, p.1 = Value.ref a := by
    intro p hp
    rw [pairsOf_toList] at hp
    obtain ⟨e1, e2⟩ := mem_zip_self hp
    obtain ⟨a, ha, e3⟩ := List.mem_map.mp e2
    exact ⟨e1, a, ha, e3.symm⟩
  refine sorted_lists (N := s.heap.objs.size) (r := rk) hl.isList ?_ ?_ ?_ ?_ (by rw [List.length_map, hlen]; exact hL) hu fun arr hp hs => ?_
  · intro A s' keep hu' x y i j hx hy
    obtain ⟨mx, ei⟩ := rk_mem x i hx
    obtain ⟨my, ej⟩ := rk_mem y j hy
    obtain ⟨us, i1, ⟨o1, g1, c1, n1, d1⟩⟩ := there x mx
    obtain ⟨ws, i2, ⟨o2, g2, c2, n2, d2⟩⟩ := there y my
    refine key_lt (us := us) (vs := ws) ⟨o1, keep _ _ g1, c1, n1, d1⟩ ⟨o2, keep _ _ g2, c2, n2, d2⟩ i1 i2 hu' ⟨?_, rfl⟩
    rw [lexI_nats, ei, ej, rank_dec (mem_fs x mx) (mem_fs y my)]
  · intro v hv
    obtain ⟨a, ha, rfl⟩ := List.mem_map.mp hv
    obtain ⟨us, _, ⟨o1, g1, c1, _⟩⟩ := there a ha
    exact ⟨a, o1, rfl, g1, c1⟩
  · intro a kk e
    obtain ⟨us, _, ⟨o1, g1, _⟩⟩ := there a (rk_mem a kk e).1
    exact Heap.lt_size g1
  · intro p hp
    obtain ⟨_, a, ha, e⟩ := keys p hp
    refine ⟨rank fs (natsOf H a), ?_⟩
    show rowKey rk p.1 = _
    rw [e]
    exact rk_at a ha
  · have hpl : arr.toList.Perm (pairsOf (as.map Value.ref)).toList := Array.perm_iff_toList_perm.mp hp
    obtain ⟨bs, eb⟩ := refs_of arr.toList fun p hp' => by
      obtain ⟨e1, a, _, e2⟩ := keys p (hpl.mem_iff.mp hp')
      exact ⟨e1, a, e2⟩
    have hbs : bs.Perm as := by
      have h1 := hpl.map fun p => match p.1 with | .ref a => a | _ => 0
      rw [eb, pairsOf_toList, List.map_map] at h1
      have e2 : ((as.map Value.ref).zip (as.map Value.ref)).map (fun p => match p.1 with | .ref a => a | _ => 0) = as := by
        rw [List.zip_map', List.map_map]
        exact (List.map_congr_left fun a _ => rfl).trans (List.map_id as)
      rw [e2] at h1
      have e3 : bs.map ((fun p : Keyed => match p.1 with | .ref a => a | _ => 0) ∘ fun b => (Value.ref b, Value.ref b)) = bs := (List.map_congr_left fun a _ => rfl).trans (List.map_id bs)
      rw [e3] at h1
      exact h1
    have eo : (arr.map (·.2)).toList = bs.map Value.ref := by
      rw [Array.toList_map, eb, List.map_map]
      rfl
    have hsz : arr.size = bs.length := by rw [← Array.length_toList, eb, List.length_map]
    have hsz2 : (pairsOf (as.map Value.ref)).size = bs.length := by rw [← hp.size_eq, hsz]
    obtain ⟨ep, he'⟩ := sortedAll_at s.heap (as.map Value.ref) (arr.map (·.2))
    have hbl : (bs.map V.ref).length ≤ sizeLine := by rw [List.length_map, hbs.length_eq, hlen]; exact hL
    refine ⟨.ref _, upd H (s.heap.objs.size + 1) (.lst (bs.map V.ref)), I.laid (t' := s.toks) (fun _ _ => sortedAll_old) (Nat.le_succ _) ⟨hbl, (arr.map (·.2)).toList, ep, by rw [eo]; exact refs_vals bs, he'⟩, rfl, k bs (bs.map (natsOf H)) _ ?_ ?_ ?_ (I.hok.fresh (Nat.le_succ _))⟩
    · rw [ef]
      exact hbs.map _
    · rw [List.pairwise_map, List.pairwise_iff_getElem]
      intro i j hi hj hij hlt
      have hmi : bs[i] ∈ as := hbs.mem_iff.mp (List.getElem_mem hi)
      have hmj : bs[j] ∈ as := hbs.mem_iff.mp (List.getElem_mem hj)
      have h1 := hs i j (Nat.le_of_lt hij) (by rw [hsz2]; exact hj)
      have kk : ∀ (m : Nat) (hm : m < bs.length), KK (rowKind rk) arr m = rank fs (natsOf H bs[m]) := by
        intro m hm
        have e1 : arr[m]? = some (Value.ref bs[m], Value.ref bs[m]) := by
          rw [← Array.getElem?_toList, eb, List.getElem?_map, List.getElem?_eq_getElem hm]
          rfl
        unfold KK
        rw [e1]
        show (rowKey rk (Value.ref bs[m])).getD (0 : Nat) = _
        have e2 : rowKey rk (Value.ref bs[m]) = some (rank fs (natsOf H bs[m])) := rk_at _ (hbs.mem_iff.mp (List.getElem_mem hm))
        rw [e2]
        rfl
      rw [kk i hi, kk j hj] at h1
      have h2 : decide (rank fs (natsOf H bs[j]) < rank fs (natsOf H bs[i])) = false := h1
      have h3 := rank_lt (mem_fs _ hmj) hlt
      exact of_decide_eq_false h2 h3
    · intro P hP
      rw [ef] at hP
      exact each_map fun b hb => each_all hP b (hbs.mem_iff.mp hb)
end
end Sm
end
section
set_option Elab.async false
set_option linter.all false
set_option maxRecDepth 100000
set_option maxHeartbeats 2000000
namespace Sm
open PySem PySem.Spec L2
open PyProof.Rows hiding St
/-! ### the text by places -/
def top (i : Nat) : Stmt := PySem.Challenge.pw_smelledwhen_s01_answers.main.body.getD i (.Pass ⟨0, 0, 0, 0⟩)
abbrev sMatInit : Stmt := inClass (top 20) 0
abbrev sMixInit : Stmt := inClass (top 21) 0
abbrev sShInit : Stmt := inClass (top 22) 0
abbrev sBegins : Stmt := inClass (top 22) 1
abbrev sMaterial : Stmt := inClass (top 22) 2
abbrev sCourse : Stmt := inClass (top 22) 3
abbrev sMayBe : Stmt := inClass (top 22) 4
abbrev sFewest : Stmt := inClass (top 22) 5
abbrev sEven : Stmt := inClass (top 22) 6
abbrev sOrders : Stmt := inClass (top 22) 7
abbrev sMixWith : Stmt := inClass (top 22) 8
abbrev sMixtures : Stmt := inClass (top 22) 9
abbrev sFormulas : Stmt := inClass (top 22) 10
abbrev sIsWithin : Stmt := top 23
abbrev sIsMaterial : Stmt := top 24
abbrev sOverAt : Stmt := top 25
abbrev sTurns : Stmt := top 26
abbrev sLeader : Stmt := top 27
abbrev sStrength : Stmt := top 28
abbrev sRefusal : Stmt := top 29
abbrev sToldFewest : Stmt := top 30
abbrev sToldEven : Stmt := top 31
abbrev sOfFewest : Stmt := top 32
abbrev sMostEven : Stmt := top 33
abbrev sToldOrders : Stmt := top 34
abbrev sAnswers : Stmt := top 35
abbrev sCallEnd : Stmt := top 36
abbrev sAnswer : Stmt := top 37
/-! ### the data -/
def mf (m : Si81.Material) : List (Str × V) := putF "most" (.int m.most) (putF "lasts" (.int m.lasts) (putF "strong" (.int m.strong) []))
theorem mf_strong (m : Si81.Material) : (mf m).lookup ("strong" : Str) = some (.int m.strong) := by
  unfold mf
  rw [lookup_putF, if_neg (by decide +kernel), lookup_putF, if_neg (by decide +kernel), lookup_putF, if_pos rfl]
theorem mf_lasts (m : Si81.Material) : (mf m).lookup ("lasts" : Str) = some (.int m.lasts) := by
  unfold mf
  rw [lookup_putF, if_neg (by decide +kernel), lookup_putF, if_pos rfl]
theorem mf_most (m : Si81.Material) : (mf m).lookup ("most" : Str) = some (.int m.most) := by
  unfold mf
  rw [lookup_putF, if_pos rfl]
def sf (d : Nat) (l : Addr) : List (Str × V) := putF "materials" (.ref l) (putF "most_drops" (.int d) [])
theorem sf_drops (d : Nat) (l : Addr) : (sf d l).lookup ("most_drops" : Str) = some (.int d) := by
  unfold sf
  rw [lookup_putF, if_neg (by decide +kernel), lookup_putF, if_pos rfl]
theorem sf_mats (d : Nat) (l : Addr) : (sf d l).lookup ("materials" : Str) = some (.ref l) := by
  unfold sf
  rw [lookup_putF, if_pos rfl]
theorem sf_no (d : Nat) (l : Addr) {m : Str} (h1 : ¬ m = "materials") (h2 : ¬ m = "most_drops") : (sf d l).lookup m = none := by
  unfold sf
  rw [lookup_putF, if_neg h1, lookup_putF, if_neg h2]
  all_goals rfl
/-- a material stands at a -/
def MatAt (C : Addr) (H : Hp) (a : Addr) (m : Si81.Material) : Prop := ∃ dx, H a = some (.ins C dx (mf m))
/-- materials stand at as -/
structure MatsAt (C : Addr) (H : Hp) (as : List Addr) (ms : List Si81.Material) : Prop where
  len : as.length = ms.length
  at_ : ∀ (j : Nat) (a : Addr) (m : Si81.Material), as[j]? = some a → ms[j]? = some m → MatAt C H a m
/-- the list at l holds the materials ms -/
def MLst (C : Addr) (H : Hp) (l : Addr) (ms : List Si81.Material) : Prop := ∃ as : List Addr, H l = some (.lst (as.map V.ref)) ∧ MatsAt C H as ms
/-- a shelf stands at p, its list at l -/
def ShAt (CS CM : Addr) (H : Hp) (p l : Addr) (s : Si81.Shelf) : Prop := ∃ dx, H p = some (.ins CS dx (sf s.drops l)) ∧ MLst CM H l s.materials
theorem MatsAt.same {C : Addr} {H H' : Hp} {as : List Addr} {ms : List Si81.Material} (e : Same H H') (h : MatsAt C H as ms) : MatsAt C H' as ms :=
  ⟨h.len, fun j a m h1 h2 => let ⟨dx, q⟩ := h.at_ j a m h1 h2; ⟨dx, e _ _ q⟩⟩
theorem MLst.same {C : Addr} {H H' : Hp} {l : Addr} {ms : List Si81.Material} (e : Same H H') (h : MLst C H l ms) : MLst C H' l ms :=
  let ⟨as, h1, h2⟩ := h; ⟨as, e _ _ h1, h2.same e⟩
theorem ShAt.same {CS CM : Addr} {H H' : Hp} {p l : Addr} {s : Si81.Shelf} (e : Same H H') (h : ShAt CS CM H p l s) : ShAt CS CM H' p l s :=
  let ⟨dx, h1, h2⟩ := h; ⟨dx, e _ _ h1, h2.same e⟩
/-- all but the shelf at p and its list at l is as it was -/
def Frame (p l : Addr) (H H' : Hp) : Prop := ∀ b o, H b = some o → b ≠ p → b ≠ l → H' b = some o
theorem Same.frame {p l : Addr} {H H' : Hp} (e : Same H H') : Frame p l H H' := fun b o h _ _ => e b o h
/-- a list that stays whatever is done to the others -/
def FrzSq (K : PySem.W.Frag) (H : Hp) (a : Addr) (xs : List V) : Prop := ∀ H' : Hp, (∀ b o u, H b = some (.frz o u) → H' b = some (.frz o u)) → SqL K H' a xs
theorem FrzSq.sq {K : PySem.W.Frag} {H : Hp} {a : Addr} {xs : List V} (h : FrzSq K H a xs) : SqL K H a xs := h H fun _ _ _ z => z
theorem FrzSq.keep {K : PySem.W.Frag} {H H1 : Hp} {a : Addr} {xs : List V} (h : FrzSq K H a xs) (k : ∀ b o u, H b = some (.frz o u) → H1 b = some (.frz o u)) : FrzSq K H1 a xs := fun H' k' => h H' fun b o u z => k' b o u (k b o u z)
/-- naturals as values -/
abbrev nv (l : List Nat) : List V := l.map fun (n : Nat) => V.int (n : Int)
abbrev iv (l : List Int) : List V := l.map V.int
theorem nv_iv (l : List Nat) : nv l = iv (Si81.ints l) := by
  unfold nv iv Si81.ints
  rw [List.map_map]
  rfl
/-! ### what the top has written -/
/-- a module's int -/
def GInt (mg : Str → Option Value) (x : Str) (i : Int) : Prop := ∃ t, mg x = some (.int i t)
structure Txt (K : PySem.W.Frag) (mg : Str → Option Value) (CM CS : Addr) : Prop where
  clM : Cls K CM
  clS : Cls K CS
  mStrong : NoAttr K CM "strong"
  mLasts : NoAttr K CM "lasts"
  mMost : NoAttr K CM "most"
  sDrops : NoAttr K CS "most_drops"
  sMats : NoAttr K CS "materials"
  mgM : mg "Material" = some (.ref CM)
  mgS : mg "Shelf" = some (.ref CS)
  cBegins : GInt mg "BEGINS" 0
  cMaterial : GInt mg "MATERIAL" 1
  cCourse : GInt mg "COURSE" 2
  cFewest : GInt mg "FEWEST" 3
  cEven : GInt mg "EVEN" 4
  cOrders : GInt mg "ORDERS" 5
  cMostMaterials : GInt mg "MOST_MATERIALS" 4
  cMostStrong : GInt mg "MOST_STRONG" 100
  cMostLasts : GInt mg "MOST_LASTS" 24
  cMostOne : GInt mg "MOST_DROPS_OF_ONE" 5
  cMostAll : GInt mg "MOST_DROPS_OF_ALL" 20
  cDrops : GInt mg "DROPS_AT_THE_BEGINNING" 1
  cNotAsTold : GInt mg "NOT_AS_TOLD" (-1)
  cMayNot : GInt mg "MAY_NOT_BE" (-4)
  cNoRoom : GInt mg "NO_ROOM" (-5)
  cNotThere : GInt mg "NOT_THERE" (-1)
  cTwice : GInt mg "TOLD_TWICE" (-4)
  cNoFormula : GInt mg "NO_FORMULA" (-6)
  bLen : mg "len" = none
  bMax : mg "max" = none
  bMin : mg "min" = none
  bAny : mg "any" = none
  bSorted : mg "sorted" = none
  bZip : mg "zip" = none
  bSum : mg "sum" = none
  bRange : mg "range" = none
  bEnum : mg "enumerate" = none
/-- a module's int as an expression -/
theorem pe_gint {X : Cx} {x : Str} {i : Int} {pos : Pos} (g : GInt X.mg x i) (hg : Gl X x) (hd : (x == ("__debug__" : Str)) = false := by decide +kernel) : PE X (.Name x pos) (tC (.int i)) :=
  let ⟨t, e⟩ := g; pe_glob hg e ⟨t, rfl⟩ hd
/-! ### mixtures -/
def xf (fa : Addr) (d : Nat) (oa : Addr) (e : Nat) : List (Str × V) := putF "evenness" (.int e) (putF "order" (.ref oa) (putF "drops" (.int d) (putF "formula" (.ref fa) [])))
theorem xf_formula (fa : Addr) (d : Nat) (oa : Addr) (e : Nat) : (xf fa d oa e).lookup ("formula" : Str) = some (.ref fa) := by
  unfold xf
  rw [lookup_putF, if_neg (by decide +kernel), lookup_putF, if_neg (by decide +kernel), lookup_putF, if_neg (by decide +kernel), lookup_putF, if_pos rfl]
theorem xf_drops (fa : Addr) (d : Nat) (oa : Addr) (e : Nat) : (xf fa d oa e).lookup ("drops" : Str) = some (.int d) := by
  unfold xf
  rw [lookup_putF, if_neg (by decide +kernel), lookup_putF, if_neg (by decide +kernel), lookup_putF, if_pos rfl]
theorem xf_order (fa : Addr) (d : Nat) (oa : Addr) (e : Nat) : (xf fa d oa e).lookup ("order" : Str) = some (.ref oa) := by
  unfold xf
  rw [lookup_putF, if_neg (by decide +kernel), lookup_putF, if_pos rfl]
theorem xf_even (fa : Addr) (d : Nat) (oa : Addr) (e : Nat) : (xf fa d oa e).lookup ("evenness" : Str) = some (.int e) := by
  unfold xf
  rw [lookup_putF, if_pos rfl]
/-- the mixture of a formula stands at x -/
def MixAt (CX : Addr) (H : Hp) (s : Si81.Shelf) (x : Addr) (f : List Nat) : Prop := ∃ dx fa oa, H x = some (.ins CX dx (xf fa f.sum oa (s.shortest f))) ∧ NatsAt H fa f ∧ NatsAt H oa (s.order f)
theorem MixAt.same {CX : Addr} {H H' : Hp} {s : Si81.Shelf} {x : Addr} {f : List Nat} (e : Same H H') (h : MixAt CX H s x f) : MixAt CX H' s x f :=
  let ⟨dx, fa, oa, h1, h2, h3⟩ := h; ⟨dx, fa, oa, e _ _ h1, e _ _ h2, e _ _ h3⟩
/-- a list of lists of naturals -/
def LLst (H : Hp) (q : Addr) (fs : List (List Nat)) : Prop := ∃ as : List Addr, H q = some (.lst (as.map V.ref)) ∧ Each (NatsAt H) as fs
/-- a list of mixtures -/
def XLst (CX : Addr) (H : Hp) (s : Si81.Shelf) (q : Addr) (fs : List (List Nat)) : Prop := ∃ as : List Addr, H q = some (.lst (as.map V.ref)) ∧ Each (MixAt CX H s) as fs
structure TxtX (K : PySem.W.Frag) (mg : Str → Option Value) (CX : Addr) : Prop where
  cl : Cls K CX
  nForm : NoAttr K CX "formula"
  nDrops : NoAttr K CX "drops"
  nOrder : NoAttr K CX "order"
  nEven : NoAttr K CX "evenness"
  mgX : mg "Mixture" = some (.ref CX)
/-- a def of the text that may be called by its name -/
def Fn (P : Program) (w : World) (K : PySem.W.Frag) (mg : Str → Option Value) (base : Heap) (x : Str) (k : Nat) (ps : List Str) (sp : Sp) : Prop :=
  ∃ (f : Addr) (fd : FuncData), FnOk P w K mg base CX0 k f fd ps sp ∧ mg x = some (.ref f) ∧ PySem.W.keepIn K (.ref f) = true ∧ Binds K fd ps []
/-- a method of the class at C -/
def Mth (P : Program) (w : World) (K : PySem.W.Frag) (mg : Str → Option Value) (base : Heap) (C : Addr) (m : Str) (k : Nat) (ps : List Str) (sp : Sp) : Prop :=
  ∃ (f : Addr) (fd : FuncData), FnOk P w K mg base CX0 k f fd ps sp ∧ Meth K C m f ∧ Binds K fd ps []
/-- a class that may be made -/
def Mak (P : Program) (w : World) (K : PySem.W.Frag) (mg : Str → Option Value) (base : Heap) (C : Addr) (k : Nat) (ps : List Str) (sp : Sp) : Prop :=
  ∃ (f : Addr) (fd : FuncData), FnOk P w K mg base CX0 k f fd ps sp ∧ Mk K C f ∧ Binds K fd ps []
end Sm
end
section
set_option Elab.async false
set_option linter.all false
set_option maxRecDepth 100000
set_option maxHeartbeats 2000000
namespace Sm
open PySem PySem.Spec L2
open PyProof.Rows hiding St
section
variable {P : Program} {w : World} {K : PySem.W.Frag} {mg : Str → Option Value} {base : Heap} {CM CS : Addr}
/-! ### is_within -/
def spWithin : Sp := fun vs H Q _ => ∃ n a b : Int, vs = [.int n, .int a, .int b] ∧ Q (.bl (decide (a ≤ n) && decide (n ≤ b))) H
theorem scWithin : FnScope ["number", "least", "most"] ["number", "least", "most"] (defScope sIsWithin) := ⟨rfl, rfl, rfl, by decide +kernel, rfl, by decide +kernel, by decide +kernel⟩
theorem ok_within {f : Addr} {fd : FuncData} (F : Fun K "is_within" "is_within" sIsWithin f fd) : FnOk P w K mg base CX0 1 f fd ["number", "least", "most"] spWithin := by
  refine F.ok scWithin (fun vs H Q E h => ?_) (fun cdv A outer s H vs Q E hr h => ?_)
  · obtain ⟨n, a, b, rfl, _⟩ := h
    rfl
  · obtain ⟨n, a, b, rfl, k⟩ := h
    refine ⟨_, pss_one (ps_ret (pe_and (pe_cmpR op_le (pv 1) (pv 0) (nomark _)) (pe_one (pe_cmpR op_le (pv 0) (pv 2) (nomark _))))), ?_⟩
    refine ⟨_, rfl, _, rfl, _, _, rfl, rfl, _, rfl, ?_⟩
    cases e : decide (a ≤ n) with
    | true =>
      rw [e] at k
      exact iteT ⟨_, rfl, _, rfl, _, _, rfl, rfl, k⟩
    | false =>
      rw [e] at k
      exact iteF k
/-! ### is_material -/
def matOk (s l d : Int) : Bool := (decide (1 ≤ s) && decide (s ≤ 100)) && ((decide (1 ≤ l) && decide (l ≤ 24)) && (decide (0 ≤ d) && decide (d ≤ 5)))
def spIsMat : Sp := fun vs H Q _ => ∃ s l d : Int, vs = [.int s, .int l, .int d] ∧ Q (.bl (matOk s l d)) H
theorem scIsMat : FnScope ["strong", "lasts", "drops"] ["strong", "lasts", "drops"] (defScope sIsMaterial) := ⟨rfl, rfl, rfl, by decide +kernel, rfl, by decide +kernel, by decide +kernel⟩
theorem ok_isMat {f : Addr} {fd : FuncData} (F : Fun K "is_material" "is_material" sIsMaterial f fd) (T : Txt K mg CM CS) (W : Fn P w K mg base "is_within" 1 ["number", "least", "most"] spWithin) :
    FnOk P w K mg base CX0 2 f fd ["strong", "lasts", "drops"] spIsMat := by
  obtain ⟨fW, fdW, GW, mW, kW, bW⟩ := W
  refine F.ok scIsMat (fun vs H Q E h => ?_) (fun cdv A outer s H vs Q E hr h => ?_)
  · obtain ⟨s, l, d, rfl, _⟩ := h
    rfl
  · obtain ⟨s, l, d, rfl, k⟩ := h
    refine ⟨_, pss_cons (ps_if (pt_not (pt_val (pe_call GW hr rfl mW kW bW .nil pass0 (pa_cons (pv 0) (pa_cons pe_int (pa_cons (pe_gint T.cMostStrong rfl) pa_nil)))))) (pss_one (ps_ret pe_bl)) pss_nil)
      (pss_cons (ps_if (pt_not (pt_val (pe_call GW hr rfl mW kW bW .nil pass0 (pa_cons (pv 1) (pa_cons pe_int (pa_cons (pe_gint T.cMostLasts rfl) pa_nil)))))) (pss_one (ps_ret pe_bl)) pss_nil)
      (pss_one (ps_ret (pe_call GW hr rfl mW kW bW .nil pass0 (pa_cons (pv 2) (pa_cons pe_int (pa_cons (pe_gint T.cMostOne rfl) pa_nil))))))), ?_⟩
    refine ⟨_, rfl, _, _, _, rfl, _, rfl, ?_⟩
    unfold matOk at k
    cases e1 : (decide (1 ≤ s) && decide (s ≤ 100)) with
    | false =>
      rw [e1] at k
      exact iteT k
    | true =>
      rw [e1] at k
      refine iteF ⟨_, rfl, _, _, _, rfl, _, rfl, ?_⟩
      cases e2 : (decide (1 ≤ l) && decide (l ≤ 24)) with
      | false =>
        rw [e2] at k
        exact iteT k
      | true =>
        rw [e2] at k
        exact iteF ⟨_, rfl, _, _, _, rfl, k⟩
/-! ### strength_by_lasting -/
def spStrength (CM : Addr) : Sp := fun vs H Q _ => ∃ (a : Addr) (m : Si81.Material) (d t : Nat), vs = [.ref a, .int (d : Nat), .int (t : Nat)] ∧ MatAt CM H a m ∧ m.strong ≤ 100 ∧ m.lasts ≤ 24 ∧ d ≤ 5 ∧ Q (.int ((d * m.strong * (m.lasts - t) : Nat) : Int)) H
theorem scStrength : FnScope ["material", "drops", "when"] ["material", "drops", "when"] (defScope sStrength) := ⟨rfl, rfl, rfl, by decide +kernel, rfl, by decide +kernel, by decide +kernel⟩
theorem max_sub (a t : Nat) : (if (0 : Int) > (a : Int) - (t : Int) then (0 : Int) else (a : Int) - (t : Int)) = ((a - t : Nat) : Int) := by
  by_cases h : (0 : Int) > (a : Int) - (t : Int)
  · rw [if_pos h]; omega
  · rw [if_neg h]; omega
theorem ok_strength {f : Addr} {fd : FuncData} (F : Fun K "strength_by_lasting" "strength_by_lasting" sStrength f fd) (T : Txt K mg CM CS) : FnOk P w K mg base CX0 1 f fd ["material", "drops", "when"] (spStrength CM) := by
  refine F.ok scStrength (fun vs H Q E h => ?_) (fun cdv A outer s H vs Q E hr h => ?_)
  · obtain ⟨a, m, d, t, rfl, _⟩ := h
    rfl
  · obtain ⟨a, m, d, t, rfl, ⟨dx, hm⟩, m1, m2, m3, k⟩ := h
    refine ⟨_, pss_one (ps_ret (pe_op op_mul (pe_op op_mul (pe_fld (pv 0) rfl) (pv 1)) (pe_callB (call_max2 rfl) rfl T.bMax (by decide +kernel) (pa_cons (pe_op op_sub (pe_fld (pv 0) rfl) (pv 2)) (pa_cons pe_int pa_nil))))), ?_⟩
    refine ⟨_, rfl, a, CM, dx, _, _, rfl, hm, T.clM, T.mStrong, mf_strong m, _, rfl, _, _, rfl, rfl, .inl ⟨by omega, by omega⟩,
      _, rfl, a, CM, dx, _, _, rfl, hm, T.clM, T.mLasts, mf_lasts m, _, rfl, _, _, rfl, rfl, _, _, rfl, _, _, rfl, rfl, .inr ?_, ?_⟩
    · rw [max_sub]
      omega
    · rw [max_sub]
      have e : (m.strong : Int) * (d : Int) * ((m.lasts - t : Nat) : Int) = ((d * m.strong * (m.lasts - t) : Nat) : Int) := by
        rw [Int.natCast_mul, Int.natCast_mul, Int.mul_comm (m.strong : Int)]
      rw [← e] at k
      exact k
/-! ### Material.__init__ -/
def spMatInit (CM : Addr) : Sp := fun vs H Q _ => ∃ (p dx : Addr) (m : Si81.Material), vs = [.ref p, .int m.strong, .int m.lasts, .int m.most] ∧ H p = some (.ins CM dx []) ∧ ∀ H' : Hp, MatAt CM H' p m → (∀ b o, H b = some o → b ≠ p → H' b = some o) → Q .non H'
theorem scMatInit : FnScope ["self", "strong", "lasts", "most"] ["self", "strong", "lasts", "most"] (defScope sMatInit) := ⟨rfl, rfl, rfl, by decide +kernel, rfl, by decide +kernel, by decide +kernel⟩
theorem ok_matInit {f : Addr} {fd : FuncData} (F : Fun K "__init__" "Material.__init__" sMatInit f fd) (T : Txt K mg CM CS) : FnOk P w K mg base CX0 1 f fd ["self", "strong", "lasts", "most"] (spMatInit CM) := by
  refine F.ok scMatInit (fun vs H Q E h => ?_) (fun cdv A outer s H vs Q E hr h => ?_)
  · obtain ⟨p, dx, m, rfl, _⟩ := h
    rfl
  · obtain ⟨p, dx, m, rfl, hp, k⟩ := h
    refine ⟨_, pss_cons (ps_fld (pv 0) (pv 1) rfl) (pss_cons (ps_fld (pv 0) (pv 2) rfl) (pss_one (ps_fld (pv 0) (pv 3) rfl))), ?_⟩
    refine ⟨_, rfl, _, rfl, p, CM, dx, [], rfl, hp, T.clM, T.mStrong, (by show 0 < 1000; decide), ?_⟩
    refine ⟨_, rfl, _, rfl, p, CM, dx, _, rfl, upd_same, T.clM, T.mLasts, (by show 1 < 1000; decide), ?_⟩
    refine ⟨_, rfl, _, rfl, p, CM, dx, _, rfl, upd_same, T.clM, T.mMost, (by show 2 < 1000; decide), ?_⟩
    exact k _ ⟨dx, upd_same⟩ fun b o e hb => by rw [upd_ne hb, upd_ne hb, upd_ne hb]; exact e
/-! ### Shelf.__init__ -/
def spShInit (CS CM : Addr) : Sp := fun vs H Q _ => ∃ (p dx : Addr), vs = [.ref p] ∧ H p = some (.ins CS dx []) ∧ ∀ (H' : Hp) (l : Addr), ShAt CS CM H' p l Si81.init → H l = none → (∀ b o, H b = some o → b ≠ p → H' b = some o) → Q .non H'
theorem scShInit : FnScope ["self"] ["self"] (defScope sShInit) := ⟨rfl, rfl, rfl, by decide +kernel, rfl, by decide +kernel, by decide +kernel⟩
theorem ok_shInit {f : Addr} {fd : FuncData} (F : Fun K "__init__" "Shelf.__init__" sShInit f fd) (T : Txt K mg CM CS) : FnOk P w K mg base CX0 1 f fd ["self"] (spShInit CS CM) := by
  refine F.ok scShInit (fun vs H Q E h => ?_) (fun cdv A outer s H vs Q E hr h => ?_)
  · obtain ⟨p, dx, rfl, _⟩ := h
    rfl
  · obtain ⟨p, dx, rfl, hp, k⟩ := h
    refine ⟨_, pss_cons (ps_fld (pv 0) (pe_gint T.cDrops rfl) rfl) (pss_one (ps_fld (pv 0) (pe_lst pa_nil) rfl)), ?_⟩
    refine ⟨_, rfl, p, CS, dx, [], rfl, hp, T.clS, T.sDrops, (by show 0 < 1000; decide), ?_⟩
    refine ⟨Nat.zero_le _, fun l hl => ?_⟩
    have npl : p ≠ l := ne_of_none upd_same hl
    refine ⟨_, rfl, p, CS, dx, _, rfl, by rw [upd_ne npl]; exact upd_same, T.clS, T.sMats, (by show 1 < 1000; decide), ?_⟩
    have nHl : H l = none := by rw [upd_ne npl.symm] at hl; exact hl
    refine k _ l ⟨dx, upd_same, [], by rw [upd_ne npl.symm]; exact upd_same, rfl, fun j a m h => by simp at h⟩ nHl fun b o e hb => ?_
    have nbl : b ≠ l := ne_of_none (by rw [upd_ne hb]; exact e) hl
    rw [upd_ne hb, upd_ne nbl, upd_ne hb]
    exact e
end
end Sm
end
section
set_option Elab.async false
set_option linter.all false
set_option maxRecDepth 100000
set_option maxHeartbeats 2000000
namespace Sm
open PySem PySem.Spec L2
open PyProof.Rows hiding St
/-- a formula that the courses speak of -/
structure FOk (s : Si81.Shelf) (f : List Nat) : Prop where
  g : Good s
  len : f.length = s.count
  small : ∀ x ∈ f, x ≤ 5
/-- who leads, as a value -/
def vo : Option Nat → V
  | none => .non
  | some k => .int (k : Int)
theorem FOk.get {s : Si81.Shelf} {f : List Nat} (h : FOk s f) {i : Nat} {m : Si81.Material} (hm : s.materials[i]? = some m) : ∃ d, f[i]? = some d ∧ f.getD i 0 = d ∧ d ≤ 5 := by
  have hi : i < s.materials.length := (List.getElem?_eq_some_iff.mp hm).1
  have hf : i < f.length := by rw [h.len]; exact hi
  refine ⟨f[i], List.getElem?_eq_getElem hf, ?_, h.small _ (List.getElem_mem hf)⟩
  rw [List.getD_eq_getElem?_getD, List.getElem?_eq_getElem hf]
  rfl
theorem hlOf_le {s : Si81.Shelf} {f : List Nat} {t i : Nat} (g : Good s) (hi : i ≤ s.count) : hlOf s (leadsTo s f t i) ≤ 24 := by
  cases e : leadsTo s f t i with
  | none => show 1 ≤ 24; decide
  | some k =>
    have hk := leadsTo_lt e
    exact (g.mat _ (material_get (show k < s.count by omega))).2.2.2.1
theorem nv_get {f : List Nat} {i d : Nat} (h : f[i]? = some d) : (nv f)[i]? = some (V.int (d : Int)) := by
  unfold nv
  rw [List.getElem?_map, h]
  rfl
section
variable {P : Program} {w : World} {K : PySem.W.Frag} {mg : Str → Option Value} {base : Heap} {CM CS : Addr}
def spLeader (K : PySem.W.Frag) (CM : Addr) : Sp := fun vs H Q _ => ∃ (l q : Addr) (s : Si81.Shelf) (f : List Nat) (t : Nat), vs = [.ref l, .ref q, .int (t : Nat)] ∧ MLst CM H l s.materials ∧ SqL K H q (nv f) ∧ FOk s f ∧ ∀ H' : Hp, Same H H' → Q (vo (s.leads f t)) H'
theorem scLeader : FnScope ["materials", "formula", "when", "leading", "highest", "highest_lasts", "number", "material", "strength"] ["materials", "formula", "when"] (defScope sLeader) := ⟨rfl, rfl, rfl, by decide +kernel, rfl, by decide +kernel, by decide +kernel⟩
theorem ok_leader {f : Addr} {fd : FuncData} (F : Fun K "leader" "leader" sLeader f fd) (T : Txt K mg CM CS) (S : Fn P w K mg base "strength_by_lasting" 1 ["material", "drops", "when"] (spStrength CM)) :
    FnOk P w K mg base CX0 2 f fd ["materials", "formula", "when"] (spLeader K CM) := by
  obtain ⟨fS, fdS, GS, mS, kS, bS⟩ := S
  refine F.ok scLeader (fun vs H Q E h => ?_) (fun cdv A outer s0 H vs Q E hr h => ?_)
  · obtain ⟨l, q, s, f, t, rfl, _⟩ := h
    rfl
  · obtain ⟨l, q, s, f, t, rfl, ⟨as, hl, hM⟩, hq, hF, k⟩ := h
    refine ⟨_, pss_cons (ps_set (i := 3) scLeader.nd rfl (Or.inl rfl) pe_non) (pss_cons (ps_set (i := 4) scLeader.nd rfl (Or.inl rfl) pe_int) (pss_cons (ps_set (i := 5) scLeader.nd rfl (Or.inl rfl) pe_int)
      (pss_cons (ps_for PassesOwn.never rfl (pi_enum rfl T.bEnum (pa_cons (pv 0) pa_nil)) (pg_tup rfl (pgs_cons (pg_name (i := 6) scLeader.nd rfl (Or.inl rfl)) (pgs_cons (pg_name (i := 7) scLeader.nd rfl (Or.inl rfl)) pgs_nil)))
        (pss_cons (ps_set (i := 8) scLeader.nd rfl (Or.inl rfl) (pe_call GS hr rfl mS kS bS .nil pass0 (pa_cons (pv 7) (pa_cons (pe_ix ix_list (pv 1) (pv 6) (fun _ _ => rfl)) (pa_cons (pv 2) pa_nil)))))
        (pss_one (ps_if (pt_cmpR op_gt (pe_op op_mul (pv 8) (pv 5)) (pe_op op_mul (pv 4) (pe_fld (pv 7) rfl)) (nomark _))
          (pss_cons (ps_set (i := 3) scLeader.nd rfl (Or.inl rfl) (pv 6)) (pss_cons (ps_set (i := 4) scLeader.nd rfl (Or.inl rfl) (pv 8)) (pss_one (ps_set (i := 5) scLeader.nd rfl (Or.inl rfl) (pe_fld (pv 7) rfl))))) pss_nil))))
      (pss_one (ps_ret (pv 3)))))), ?_⟩
    refine ⟨_, rfl, l, _, rfl, SqL.of hl, for_enum (K := K) (a := l) (xs := as.map V.ref) (fun i σ H' => ∃ v6 v7 v8 : Option V, σ = [some (.ref l), some (.ref q), some (.int (t : Nat)), some (vo (leadsTo s f t i)), some (.int (hiOf s f t (leadsTo s f t i) : Nat)), some (.int (hlOf s (leadsTo s f t i) : Nat)), v6, v7, v8] ∧ Same H H')
      ⟨none, none, none, rfl, Same.rfl'⟩ (fun i σ H' _ ⟨_, _, _, _, s5⟩ => SqL.of (s5 _ _ hl)) ?_ ?_⟩
    · rintro i x σ H' hi ⟨v6, v7, v8, rfl, s5⟩ U hU
      obtain ⟨a, ha, rfl⟩ : ∃ a, as[i]? = some a ∧ x = V.ref a := by
        rw [List.getElem?_map] at hi
        cases e : as[i]? with
        | none => rw [e] at hi; cases hi
        | some a => rw [e] at hi; exact ⟨a, rfl, (Option.some.inj hi).symm⟩
      have hil : i < as.length := (List.getElem?_eq_some_iff.mp ha).1
      have him : i < s.materials.length := by rw [← hM.len]; exact hil
      obtain ⟨m, hm⟩ : ∃ m, s.materials[i]? = some m := ⟨_, List.getElem?_eq_getElem him⟩
      obtain ⟨d, hd, hd2, hd5⟩ := hF.get hm
      have em := material_of hm
      have mb := hF.g.mat m (List.mem_of_getElem? hm)
      have s6 : Same H (upd H' U (.tup [.int (i : Nat), .ref a])) := s5.trans (Same.new hU)
      obtain ⟨dx, hA⟩ := (hM.same s6).at_ i a m ha hm
      have hhl : hlOf s (leadsTo s f t i) ≤ 24 := hlOf_le hF.g (Nat.le_of_lt him)
      refine ⟨U, _, rfl, SqT.of upd_same, rfl, _, _, rfl, _, _, rfl, rfl, ?_⟩
      refine ⟨_, rfl, _, rfl, _, rfl, q, _, _, _, rfl, rfl, s6.seq hq, atI_nat (nv_get hd), _, rfl, a, m, d, t, rfl, ⟨dx, hA⟩, mb.2.1, mb.2.2.2.1, hd5, ?_⟩
      have eat : d * m.strong * (m.lasts - t) = s.at_ f t i := by
        unfold Si81.Shelf.at_
        rw [em, hd2]
      rw [eat]
      refine ⟨_, rfl, _, rfl, _, _, rfl, rfl, .inr ⟨by omega, by omega⟩, _, rfl, _, rfl, a, CM, dx, _, _, rfl, hA, T.clM, T.mLasts, mf_lasts m, _, _, rfl, rfl, .inr ⟨by omega, by omega⟩, _, _, rfl, rfl, _, rfl, ?_⟩
      refine ite2 (fun c => ?_) (fun c => ?_)
      · have c' : hiOf s f t (leadsTo s f t i) * (s.material i).lasts < s.at_ f t i * hlOf s (leadsTo s f t i) := by
          rw [em]
          have := of_decide_eq_true c
          exact_mod_cast this
        have e := leadStep_pos c'
        rw [← leadsTo_succ] at e
        refine ⟨_, rfl, _, rfl, _, rfl, a, CM, dx, _, _, rfl, hA, T.clM, T.mLasts, mf_lasts m, ?_⟩
        refine ⟨some (.int (i : Nat)), some (.ref a), some (.int (s.at_ f t i : Nat)), ?_, s6⟩
        rw [e]
        show _ = [_, _, _, some (V.int (i : Int)), some (V.int ((s.at_ f t i : Nat) : Int)), some (V.int (((s.material i).lasts : Nat) : Int)), _, _, _]
        rw [em]
        rfl
      · have c' : ¬ hiOf s f t (leadsTo s f t i) * (s.material i).lasts < s.at_ f t i * hlOf s (leadsTo s f t i) := by
          rw [em]
          intro z
          exact c (decide_eq_true (by exact_mod_cast z))
        have e := leadStep_neg c'
        rw [← leadsTo_succ] at e
        refine ⟨some (.int (i : Nat)), some (.ref a), some (.int (s.at_ f t i : Nat)), ?_, s6⟩
        rw [e]
        rfl
    · rintro σ H' ⟨v6, v7, v8, rfl, s5⟩
      refine ⟨_, rfl, ?_⟩
      have e : (as.map V.ref).length = s.count := by rw [List.length_map]; exact hM.len
      rw [e, ← leads_eq]
      exact k H' s5
end
end Sm
end
section
set_option Elab.async false
set_option linter.all false
set_option maxRecDepth 100000
set_option maxHeartbeats 2000000
namespace Sm
open PySem PySem.Spec L2
open PyProof.Rows hiding St
/-- xs[i], by values -/
theorem get_list {X : Cx} : PGet X (rIxL X.K) := by
  intro pins s σ H o i ov iv Q I ro ri h
  obtain ⟨p, xs, k, z, rfl, rfl, hq, he, q⟩ := h
  cases ro
  obtain ⟨t, rfl⟩ := ri
  obtain ⟨its, r, pl, hz⟩ := I.list hq
  obtain ⟨j, h1, h2, h3, h4, h5⟩ := atI_get he
  obtain ⟨u, eu, ru⟩ := r.get h2
  have hl := r.length
  have hn := line63
  have fin : EP X pins σ Q u s := ⟨z, H, I, ru, q⟩
  by_cases h0 : 0 ≤ k
  · have hj : k.toNat = j := by
      rw [seqIndex_of h0 h5] at h1
      exact Option.some.inj h1
    exact wpAny_getItem_list pl.isList h0 (by omega) (by rw [hj]; simpa using eu) fin
  · have hj : (k + (its.toArray.size : Int)).toNat = j := by
      rw [seqIndex_neg (by omega) h4] at h1
      rw [List.size_toArray, ← hl]
      exact Option.some.inj h1
    exact wpAny_getItem_list_neg pl.isList (by omega) (by rw [List.size_toArray] <;> omega) (by omega) (by rw [hj]; simpa using eu) fin
theorem atI_last2 {α : Type} (xs : List α) (u v : α) : atI (xs ++ [u, v]) (-2) = some u := by
  have hl : (xs ++ [u, v]).length = xs.length + 2 := by simp
  have e : ixN (xs ++ [u, v]).length (-2) = some xs.length := by
    unfold ixN
    rw [hl, if_neg (by decide), if_pos (by omega)]
    congr 1
    omega
  unfold atI
  rw [e]
  show (xs ++ [u, v])[xs.length]? = some u
  simp
theorem ixN_last {α : Type} (xs : List α) (u v : α) : ixN (xs ++ [u, v]).length (-1) = some (xs.length + 1) := by
  have hl : (xs ++ [u, v]).length = xs.length + 2 := by simp
  unfold ixN
  rw [hl, if_neg (by decide), if_pos (by omega)]
  congr 1
  omega
theorem set_last {α : Type} (xs : List α) (u v z : α) : (xs ++ [u, v]).set (xs.length + 1) z = xs ++ [u, z] := by
  induction xs with
  | nil => rfl
  | cons a xs ih =>
    show a :: (xs ++ [u, v]).set (xs.length + 1) z = a :: (xs ++ [u, z])
    rw [ih]
section
variable {P : Program} {w : World} {K : PySem.W.Frag} {mg : Str → Option Value} {base : Heap} {CM CS : Addr}
def spOver (K : PySem.W.Frag) (CM : Addr) : Sp := fun vs H Q _ => ∃ (l q : Addr) (s : Si81.Shelf) (f : List Nat), vs = [.ref l, .ref q] ∧ MLst CM H l s.materials ∧ SqL K H q (nv f) ∧ FOk s f ∧ ∀ H' : Hp, Same H H' → Q (.int (s.over f : Nat)) H'
theorem scOver : FnScope ["materials", "formula", "material", "drops"] ["materials", "formula"] (defScope sOverAt) := ⟨rfl, rfl, rfl, by decide +kernel, rfl, by decide +kernel, by decide +kernel⟩
theorem ok_over {f : Addr} {fd : FuncData} (F : Fun K "over_at" "over_at" sOverAt f fd) (T : Txt K mg CM CS) : FnOk P w K mg base CX0 1 f fd ["materials", "formula"] (spOver K CM) := by
  refine F.ok scOver (fun vs H Q E h => ?_) (fun cdv A outer s0 H vs Q E hr h => ?_)
  · obtain ⟨l, q, s, f, rfl, _⟩ := h
    rfl
  · obtain ⟨l, q, s, f, rfl, ⟨as, hl, hM⟩, hq, hF, k⟩ := h
    refine ⟨_, pss_one (ps_ret (pe_maxD rfl rfl T.bMax (pa_cons (pe_lc (own := [("material", 2), ("drops", 3)]) (g := gTup K 2 (gCons (gName 2) (gCons (gName 3) gNil))) (tt := tTest (tOp (rI0 fun i j => .bl (decide (j < i))) (tVar 3) (tC (.int 0)))) (te := tFld K (tVar 2) "lasts") rfl scOver.nd (pi_zip rfl T.bZip (pa_cons (pv 0) (pa_cons (pv 1) pa_nil))) (blkOk_by (by show blkC ["materials", "formula", "material", "drops"] (defScope sOverAt) _ _ = true; decide +kernel))
      (fun _ _ _ _ _ => pg_tup rfl (pgs_cons (pg_name (i := 2) scOver.nd rfl (Or.inl rfl)) (pgs_cons (pg_name (i := 3) scOver.nd rfl (Or.inl rfl)) pgs_nil)))
      (fun _ _ _ _ _ => pts_one (pt_cmpR op_gt (pv 3) pe_int (nomark _))) (fun _ _ _ _ _ => pe_fld (pv 2) rfl)) pa_nil) (pk_cons pe_int pk_nil))), ?_⟩
    refine ⟨_, rfl, _, rfl, l, q, _, _, rfl, SqL.of hl, hq, fun D hD => lc_zip (K := K) (a := l) (b := q) (xs := as.map V.ref) (ys := nv f) (n := s.count) (fun i H' => Same H H' ∧ H' D = some (.lst (iv (lastsTo s f i)))) ?_ ⟨Same.new hD, upd_same⟩
      (fun i H' _ ⟨s5, _⟩ => ⟨SqL.of (s5 _ _ hl), s5.seq hq⟩) ?_ ?_⟩
    · rw [List.length_map, List.length_map, hM.len, hF.len]
      exact (Nat.min_self _).symm
    · rintro i x y H' hi hj ⟨s5, hD'⟩ U hU
      obtain ⟨a, ha, rfl⟩ : ∃ a, as[i]? = some a ∧ x = V.ref a := by
        rw [List.getElem?_map] at hi
        cases e : as[i]? with
        | none => rw [e] at hi; cases hi
        | some a => rw [e] at hi; exact ⟨a, rfl, (Option.some.inj hi).symm⟩
      have hil : i < as.length := (List.getElem?_eq_some_iff.mp ha).1
      have him : i < s.materials.length := by rw [← hM.len]; exact hil
      obtain ⟨m, hm⟩ : ∃ m, s.materials[i]? = some m := ⟨_, List.getElem?_eq_getElem him⟩
      obtain ⟨d, hd, hd2, hd5⟩ := hF.get hm
      have em := material_of hm
      rw [nv_get hd] at hj
      cases hj
      have nDU : D ≠ U := ne_of_none hD' hU
      have s6 : Same H (upd H' U (.tup [.ref a, .int (d : Nat)])) := s5.trans (Same.new hU)
      have hD6 : (upd H' U (.tup [.ref a, .int (d : Nat)])) D = some (.lst (iv (lastsTo s f i))) := by rw [upd_ne nDU]; exact hD'
      obtain ⟨dx, hA⟩ := (hM.same s6).at_ i a m ha hm
      refine ⟨U, _, rfl, SqT.of upd_same, rfl, _, _, rfl, _, _, rfl, rfl, rfl, _, rfl, _, _, rfl, rfl, _, rfl, ?_⟩
      refine ite2 (fun c => ?_) (fun c => ?_)
      · have c' : f.getD i 0 ≠ 0 := by
          have := of_decide_eq_true c
          rw [hd2]
          omega
        refine ⟨_, rfl, a, CM, dx, _, _, rfl, hA, T.clM, T.mLasts, mf_lasts m, _, hD6, ?_, ?_, ?_⟩
        · rw [List.length_map]
          have h1 := lastsTo_len s f i
          have h2 := hF.g.few
          rw [sizeLine_eq]
          omega
        · intro b o e
          have nb : b ≠ D := ne_of_none e hD
          rw [upd_ne nb]
          exact s6 b o e
        · rw [upd_same, lastsTo_more c', em]
          show _ = some (HO.lst ((lastsTo s f i ++ [((m.lasts : Nat) : Int)]).map V.int))
          rw [List.map_append]
          rfl
      · have c' : f.getD i 0 = 0 := by
          have : ¬ (0 : Int) < (d : Int) := fun z => c (decide_eq_true z)
          rw [hd2]
          omega
        refine ⟨s6, ?_⟩
        rw [hD6, lastsTo_skip c']
    · rintro H' ⟨s5, hD'⟩
      refine ⟨D, _, _, rfl, rfl, SqL.of hD', fun e => ?_, fun m h1 h2 => ?_⟩
      · have e1 : s.over f = 0 := over_nil e
        have k1 := k H' s5
        rw [e1] at k1
        exact k1
      · have e1 : m = (s.over f : Int) := over_max h1 h2
        have k1 := k H' s5
        rw [← e1] at k1
        exact k1
end
end Sm
end
section
set_option Elab.async false
set_option linter.all false
set_option maxRecDepth 100000
set_option maxHeartbeats 2000000
namespace Sm
open PySem PySem.Spec L2
open PyProof.Rows hiding St
theorem runs_len (l : List Nat) : (Si81.runs l).length ≤ l.length := by
  induction l with
  | nil => exact Nat.le_refl _
  | cons i l ih =>
    rw [runs_cons]
    cases e : Si81.runs l with
    | nil => show 1 ≤ _; simp
    | cons p r =>
      rw [e] at ih
      show (if p.1 = i then (i, p.2 + 1) :: r else (i, 1) :: p :: r).length ≤ _
      simp only [List.length_cons] at ih ⊢
      split <;> simp only [List.length_cons] <;> omega
theorem flat2_len (r : List (Nat × Nat)) : (flat2 r).length = 2 * r.length := by
  induction r with
  | nil => rfl
  | cons p r ih =>
    show (p.1 :: p.2 :: flat2 r).length = _
    simp only [List.length_cons, ih]
    omega
theorem leadersTo_len (s : Si81.Shelf) (l : List Nat) (n : Nat) : (leadersTo s l n).length ≤ n := by
  unfold leadersTo
  exact Nat.le_trans (List.length_filterMap_le _ _) (by rw [List.length_range]; exact Nat.le_refl _)
theorem overTo_le {s : Si81.Shelf} {f : List Nat} (g : Good s) : ∀ {n : Nat}, n ≤ s.count → overTo s f n ≤ 24
  | 0, _ => by rw [overTo_zero]; omega
  | n + 1, h => by
    have ih := overTo_le (f := f) g (n := n) (by omega)
    rw [overTo_succ]
    by_cases c : f.getD n 0 = 0
    · rw [if_pos c]; omega
    · rw [if_neg c]
      have := (g.mat _ (material_get (show n < s.count by omega))).2.2.2.1
      omega
theorem over_le {s : Si81.Shelf} {f : List Nat} (g : Good s) : s.over f ≤ 24 := by
  rw [over_eq]
  exact overTo_le g (Nat.le_refl _)
/-- what the turns are so far, one number behind another -/
def ledTo (s : Si81.Shelf) (f : List Nat) (i : Nat) : List Nat := flat2 (Si81.runs (leadersTo s f i))
theorem ledTo_len (s : Si81.Shelf) (f : List Nat) (i : Nat) : (ledTo s f i).length ≤ 2 * i := by
  unfold ledTo
  rw [flat2_len]
  have h1 := runs_len (leadersTo s f i)
  have h2 := leadersTo_len s f i
  omega
theorem ledTo_succ {s : Si81.Shelf} {f : List Nat} {i k : Nat} (h : s.leads f i = some k) : ledTo s f (i + 1) = flat2 (addRun (Si81.runs (leadersTo s f i)) k) := by
  unfold ledTo
  rw [leadersTo_succ h, runs_snoc]
theorem atI_last1 {α : Type} (xs : List α) (u v : α) : atI (xs ++ [u, v]) (-1) = some v := by
  unfold atI
  rw [ixN_last]
  show (xs ++ [u, v])[xs.length + 1]? = some v
  rw [List.getElem?_append_right (by omega)]
  have : xs.length + 1 - xs.length = 1 := by omega
  rw [this]
  rfl
theorem nv_app (a b : List Nat) : nv (a ++ b) = nv a ++ nv b := by
  unfold nv
  rw [List.map_append]
section
variable {P : Program} {w : World} {K : PySem.W.Frag} {mg : Str → Option Value} {base : Heap} {CM CS : Addr}
def spTurns (K : PySem.W.Frag) (CM : Addr) : Sp := fun vs H Q _ => ∃ (l q : Addr) (s : Si81.Shelf) (f : List Nat), vs = [.ref l, .ref q] ∧ MLst CM H l s.materials ∧ SqL K H q (nv f) ∧ FOk s f ∧
  ∀ (H' : Hp) (p : Addr), Same H H' → H p = none → H' p = some (.lst (nv (flat2 (s.course f)))) → Q (.ref p) H'
theorem scTurns : FnScope ["materials", "formula", "led", "when", "number"] ["materials", "formula"] (defScope sTurns) := ⟨rfl, rfl, rfl, by decide +kernel, rfl, by decide +kernel, by decide +kernel⟩
theorem ok_turns {f : Addr} {fd : FuncData} (F : Fun K "turns" "turns" sTurns f fd) (T : Txt K mg CM CS) (O : Fn P w K mg base "over_at" 2 ["materials", "formula"] (spOver K CM)) (L : Fn P w K mg base "leader" 2 ["materials", "formula", "when"] (spLeader K CM)) :
    FnOk P w K mg base CX0 3 f fd ["materials", "formula"] (spTurns K CM) := by
  obtain ⟨fO, fdO, GO, mO, kO, bO⟩ := O
  obtain ⟨fL, fdL, GL, mL, kL, bL⟩ := L
  refine F.ok scTurns (fun vs H Q E h => ?_) (fun cdv A outer s0 H vs Q E hr h => ?_)
  · obtain ⟨l, q, s, f, rfl, _⟩ := h
    rfl
  · obtain ⟨l, q, s, f, rfl, hM, hq, hF, k⟩ := h
    refine ⟨_, pss_cons (ps_set (i := 2) scTurns.nd rfl (Or.inl rfl) (pe_lst pa_nil))
      (pss_cons (ps_for PassesOwn.never rfl (pi_range1 rfl T.bRange (pa_cons (pe_call GO hr rfl mO kO bO .nil pass0 (pa_cons (pv 0) (pa_cons (pv 1) pa_nil))) pa_nil)) (pg_name (i := 3) scTurns.nd rfl (Or.inl rfl))
        (pss_cons (ps_set (i := 4) scTurns.nd rfl (Or.inl rfl) (pe_call GL hr rfl mL kL bL .nil pass0 (pa_cons (pv 0) (pa_cons (pv 1) (pa_cons (pv 3) pa_nil)))))
        (pss_one (ps_if (pw_and (pt_truth (pv 2) (fun _ => rfl)) (pw_and1 (pt_cmpR op_eq (pe_ix ix_list (pv 2) (pe_un un_neg pe_int) (fun _ _ => rfl)) (pv 4) (nomark _)))).pt
          (pss_one (ps_augS (pv 2) (pe_un un_neg pe_int) get_list pe_int ip_add set_list))
          (pss_one (ps_expr (pe_bm PySem.F.plainAttrs_list PySem.F.slot_list_extend PySem.F.type_list_extend mt_extend (pv 2) (pa_cons (pe_lst (pa_cons (pv 4) (pa_cons pe_int pa_nil))) pa_nil))))))))
      (pss_one (ps_ret (pv 2)))), ?_⟩
    refine ⟨Nat.zero_le _, fun a ha => ?_⟩
    have s1 : Same H (upd H a (.lst [])) := Same.new ha
    refine ⟨_, rfl, _, rfl, l, q, s, f, rfl, hM.same s1, s1.seq hq, hF, fun H2 s2 => ?_⟩
    have h24 : s.over f ≤ 24 := over_le hF.g
    refine ⟨_, rfl, by omega, by omega, for_range (lo := 0) (n := ((s.over f : Nat) : Int).toNat) (fun i σ H' => ∃ v3 v4 : Option V, σ = [some (.ref l), some (.ref q), some (.ref a), v3, v4] ∧ Same H H' ∧ H' a = some (.lst (nv (ledTo s f i))))
      ⟨none, none, rfl, s1.trans s2, s2 _ _ upd_same⟩ ?_ ?_⟩
    · rintro i σ H' hi ⟨v3, v4, rfl, s5, hA⟩
      have hi' : i < s.over f := by omega
      obtain ⟨kk, hk, hkc⟩ := leads_some hF.g hi'
      have ez : (0 : Int) + (i : Int) = ((i : Nat) : Int) := by omega
      rw [ez]
      refine ⟨_, rfl, _, rfl, _, rfl, l, q, s, f, i, rfl, hM.same s5, s5.seq hq, hF, fun H6 s6 => ?_⟩
      have hA6 : H6 a = some (.lst (nv (ledTo s f i))) := s6 _ _ hA
      have s56 := s5.trans s6
      rw [hk]
      have hlen := ledTo_len s f i
      have hsz := sizeLine_eq
      -- the turn that begins a new stretch
      have fresh : ledTo s f (i + 1) = ledTo s f i ++ [kk, 1] →
          ∀ (D : Ends), (∀ σ' H', (∃ v3 v4 : Option V, σ' = [some (.ref l), some (.ref q), some (.ref a), v3, v4] ∧ Same H H' ∧ H' a = some (.lst (nv (ledTo s f (i + 1))))) → D.nx σ' H') →
          tDrop (tBM K "list" rExtend (tVar 2) (tCons (tLst (tCons (tVar 4) (tCons (tC (.int 1)) tNil))) tNil)) D [some (.ref l), some (.ref q), some (.ref a), some (.int (i : Nat)), some (.int (kk : Nat))] H6 := by
        intro e D hD
        refine ⟨_, rfl, .inl ⟨rfl, _, SqL.of hA6⟩, _, rfl, (by show 2 ≤ sizeLine; decide), fun b hb => ?_⟩
        have nab : a ≠ b := ne_of_none hA6 hb
        refine ⟨a, b, _, _, rfl, rfl, by rw [upd_ne nab]; exact hA6, upd_same, ?_, ?_⟩
        · rw [List.length_map]
          show _ + 2 ≤ _
          omega
        · refine hD _ _ ⟨_, _, rfl, fun c o z => ?_, ?_⟩
          · have nca : c ≠ a := ne_of_none z ha
            have ncb : c ≠ b := ne_of_none (s56 _ _ z) hb
            rw [upd_ne nca, upd_ne ncb]
            exact s56 _ _ z
          · rw [upd_same, e, nv_app]
            rfl
      cases er : (Si81.runs (leadersTo s f i)).reverse with
      | nil =>
        have e0 : Si81.runs (leadersTo s f i) = [] := by
          have := congrArg List.reverse er
          rwa [List.reverse_reverse] at this
        have e1 : ledTo s f i = [] := by unfold ledTo; rw [e0]; rfl
        have e2 : ledTo s f (i + 1) = ledTo s f i ++ [kk, 1] := by rw [ledTo_succ hk, e0, e1]; rfl
        refine ⟨_, rfl, _, .inl ⟨_, SqL.of hA6, rfl⟩, ?_⟩
        rw [e1]
        exact iteF (iteF (fresh e2 _ fun σ' H' z => z))
      | cons p r' =>
        obtain ⟨r, e0⟩ : ∃ r, Si81.runs (leadersTo s f i) = r ++ [p] := by
          refine ⟨r'.reverse, ?_⟩
          have := congrArg List.reverse er
          rw [List.reverse_reverse] at this
          rw [this, List.reverse_cons]
        have e1 : nv (ledTo s f i) = nv (flat2 r) ++ [V.int ((p.1 : Nat) : Int), V.int ((p.2 : Nat) : Int)] := by
          unfold ledTo
          rw [e0, flat2_append, nv_app]
          rfl
        rw [e1] at hA6
        refine ⟨_, rfl, _, .inl ⟨_, SqL.of hA6, rfl⟩, ?_⟩
        have ne : (!(nv (flat2 r) ++ [V.int ((p.1 : Nat) : Int), V.int ((p.2 : Nat) : Int)]).isEmpty) = true := by simp
        rw [ne]
        refine iteT ⟨_, rfl, _, rfl, a, _, _, _, rfl, rfl, SqL.of hA6, atI_last2 _ _ _, _, rfl, rfl, _, rfl, ?_⟩
        refine ite2 (fun c => ?_) (fun c => ?_)
        · have c1 := of_decide_eq_true c
          have c2 : p.1 = kk := by
            have : ((p.1 : Nat) : Int) = ((kk : Nat) : Int) := V.int.inj c1
            omega
          have e2 : nv (ledTo s f (i + 1)) = nv (flat2 r) ++ [V.int ((p.1 : Nat) : Int), V.int (((p.2 : Nat) : Int) + 1)] := by
            rw [ledTo_succ hk, e0, addRun_last, if_pos c2, flat2_append, nv_app]
            rfl
          refine ⟨_, rfl, _, rfl, a, _, _, _, rfl, rfl, SqL.of hA6, atI_last1 _ _ _, _, _, rfl, rfl, a, _, _, _, rfl, rfl, hA6, ixN_last _ _ _, ?_⟩
          refine ⟨_, _, rfl, fun c o z => ?_, ?_⟩
          · have nca : c ≠ a := ne_of_none z ha
            rw [upd_ne nca]
            exact s56 _ _ z
          · rw [upd_same, e2, set_last]
        · have c2 : ¬ p.1 = kk := fun z => c (decide_eq_true (by rw [z]; rfl))
          have e2 : ledTo s f (i + 1) = ledTo s f i ++ [kk, 1] := by
            rw [ledTo_succ hk, e0, addRun_last, if_neg c2]
            unfold ledTo
            rw [e0, flat2_append, flat2_append, List.append_assoc]
            rfl
          exact fresh e2 _ fun σ' H' z => z
    · rintro σ H' ⟨v3, v4, rfl, s5, hA⟩
      refine ⟨_, rfl, ?_⟩
      refine k H' a s5 ha ?_
      rw [hA]
      have e : ((s.over f : Nat) : Int).toNat = s.over f := by omega
      rw [e]
      rfl
end
end Sm
end
section
set_option Elab.async false
set_option linter.all false
set_option maxRecDepth 100000
set_option maxHeartbeats 2000000
namespace Sm
open PySem PySem.Spec L2
open PyProof.Rows hiding St
theorem sf_putD (d d' : Nat) (l : Addr) : putF "most_drops" (.int d') (sf d l) = sf d' l := by
  have n : ¬ ("most_drops" : Str) = "materials" := by decide +kernel
  unfold sf
  simp only [putF, if_neg n, if_true]
theorem sf_putM (d : Nat) (l l' : Addr) : putF "materials" (.ref l') (sf d l) = sf d l' := by
  have n : ¬ ("most_drops" : Str) = "materials" := by decide +kernel
  unfold sf
  simp only [putF, if_neg n, if_true]
theorem sf_len (d : Nat) (l : Addr) : (sf d l).length < 1000 := by
  have n : ¬ ("most_drops" : Str) = "materials" := by decide +kernel
  unfold sf
  simp only [putF, if_neg n, List.length_cons, List.length_nil]
  decide
/-- an answer's numbers -/
def ansL (r : Si81.Ans) : List Int := r.v :: r.l
/-- what is wanted behind a call of the shelf at p -/
def Done (CS CM p l : Addr) (s : Si81.Shelf) (c : Si81.Call) (H : Hp) (Q : VK) : Prop := ∀ (H' : Hp) (l' q : Addr), ShAt CS CM H' p l' (Si81.step s c).1 → (l' = l ∨ H l' = none) → Frame p l H H' → H q = none →
  H' q = some (.lst (iv (ansL (Si81.step s c).2))) → Q (.ref q) H'
theorem Fn.mono {P : Program} {w : World} {K : PySem.W.Frag} {mg : Str → Option Value} {base : Heap} {x : Str} {j k : Nat} {ps : List Str} {sp : Sp} (h : Fn P w K mg base x j ps sp) (e : j ≤ k) : Fn P w K mg base x k ps sp :=
  let ⟨f, fd, G, r⟩ := h; ⟨f, fd, G.mono e, r⟩
theorem Mth.mono {P : Program} {w : World} {K : PySem.W.Frag} {mg : Str → Option Value} {base : Heap} {C : Addr} {x : Str} {j k : Nat} {ps : List Str} {sp : Sp} (h : Mth P w K mg base C x j ps sp) (e : j ≤ k) : Mth P w K mg base C x k ps sp :=
  let ⟨f, fd, G, r⟩ := h; ⟨f, fd, G.mono e, r⟩
/-- a call that leaves the shelf as it is -/
theorem Done.pure {CS CM p l : Addr} {s : Si81.Shelf} {c : Si81.Call} {H H' : Hp} {Q : VK} {q : Addr} {r : Si81.Ans} (k : Done CS CM p l s c H Q) (e : Si81.step s c = (s, r)) (hS : ShAt CS CM H p l s) (hs : Same H H') (hq : H q = none) (hq' : H' q = some (.lst (iv (ansL r)))) : Q (.ref q) H' := by
  have e1 : (Si81.step s c).1 = s := by rw [e]
  have e2 : (Si81.step s c).2 = r := by rw [e]
  refine k H' l q ?_ (.inl rfl) (Same.frame hs) hq ?_
  · rw [e1]; exact hS.same hs
  · rw [e2]; exact hq'
section
variable {P : Program} {w : World} {K : PySem.W.Frag} {mg : Str → Option Value} {base : Heap} {CM CS : Addr}
/-! ### begins -/
def spBegins (CS CM : Addr) : Sp := fun vs H Q _ => ∃ (p l : Addr) (s : Si81.Shelf) (d : Nat), vs = [.ref p, .int (d : Nat)] ∧ ShAt CS CM H p l s ∧ Done CS CM p l s (.begins d) H Q
theorem scBegins : FnScope ["self", "drops"] ["self", "drops"] (defScope sBegins) := ⟨rfl, rfl, rfl, by decide +kernel, rfl, by decide +kernel, by decide +kernel⟩
theorem ok_begins {f : Addr} {fd : FuncData} (F : Fun K "begins" "Shelf.begins" sBegins f fd) (T : Txt K mg CM CS) (W : Fn P w K mg base "is_within" 1 ["number", "least", "most"] spWithin) :
    FnOk P w K mg base CX0 2 f fd ["self", "drops"] (spBegins CS CM) := by
  obtain ⟨fW, fdW, GW, mW, kW, bW⟩ := W
  refine F.ok scBegins (fun vs H Q E h => ?_) (fun cdv A outer s0 H vs Q E hr h => ?_)
  · obtain ⟨p, l, s, d, rfl, _⟩ := h
    rfl
  · obtain ⟨p, l, s, d, rfl, hS, k⟩ := h
    obtain ⟨dx, hp, hM⟩ := id hS
    refine ⟨_, pss_cons (ps_if (pt_not (pt_val (pe_call GW hr rfl mW kW bW .nil pass0 (pa_cons (pv 1) (pa_cons pe_int (pa_cons (pe_gint T.cMostAll rfl) pa_nil)))))) (pss_one (ps_ret (pe_lst (pa_cons (pe_gint T.cNotAsTold rfl) pa_nil)))) pss_nil)
      (pss_cons (ps_fld (pv 0) (pv 1) rfl) (pss_cons (ps_fld (pv 0) (pe_lst pa_nil) rfl) (pss_one (ps_ret (pe_lst (pa_cons pe_int pa_nil)))))), ?_⟩
    refine ⟨_, rfl, _, _, _, rfl, _, rfl, ?_⟩
    cases c : (decide (1 ≤ ((d : Nat) : Int)) && decide (((d : Nat) : Int) ≤ 20)) with
    | false =>
      refine iteT ⟨(by show 1 ≤ sizeLine; decide), fun q hq => ?_⟩
      have bad : d < 1 ∨ Si81.DROPS < d := by
        rw [Bool.and_eq_false_iff, decide_eq_false_iff_not, decide_eq_false_iff_not] at c
        show d < 1 ∨ 20 < d
        omega
      exact Done.pure k (r := Si81.ok (-1)) (if_pos bad) hS (Same.new hq) hq upd_same
    | true =>
      have good : ¬ (d < 1 ∨ Si81.DROPS < d) := by
        rw [Bool.and_eq_true, decide_eq_true_eq, decide_eq_true_eq] at c
        show ¬ (d < 1 ∨ 20 < d)
        omega
      refine iteF ⟨_, rfl, _, rfl, p, CS, dx, _, rfl, hp, T.clS, T.sDrops, sf_len _ _, ?_⟩
      refine ⟨Nat.zero_le _, fun l' hl' => ?_⟩
      rw [sf_putD] at hl' ⊢
      have npl : p ≠ l' := ne_of_none upd_same hl'
      have nHl : H l' = none := by rw [upd_ne npl.symm] at hl'; exact hl'
      refine ⟨_, rfl, p, CS, dx, _, rfl, by rw [upd_ne npl]; exact upd_same, T.clS, T.sMats, sf_len _ _, ?_⟩
      rw [sf_putM]
      refine ⟨(by show 1 ≤ sizeLine; decide), fun q hq => ?_⟩
      have e : Si81.step s (.begins d) = (⟨d, []⟩, Si81.ok 0) := if_neg good
      have hp3 : (upd (upd (upd H p (.ins CS dx (sf d l))) l' (.lst [])) p (.ins CS dx (sf d l'))) p = some (.ins CS dx (sf d l')) := upd_same
      have hl3 : (upd (upd (upd H p (.ins CS dx (sf d l))) l' (.lst [])) p (.ins CS dx (sf d l'))) l' = some (.lst []) := by rw [upd_ne npl.symm]; exact upd_same
      have npq : p ≠ q := ne_of_none hp3 hq
      have nlq : l' ≠ q := ne_of_none hl3 hq
      have nHq : H q = none := by rw [upd_ne npq.symm, upd_ne nlq.symm, upd_ne npq.symm] at hq; exact hq
      refine k _ l' q ?_ (.inr nHl) (fun b o z nb nb2 => ?_) nHq ?_
      · rw [e]
        exact ⟨dx, by rw [upd_ne npq]; exact hp3, [], by rw [upd_ne nlq]; exact hl3, rfl, fun j a m h => by simp at h⟩
      · have n1 : b ≠ q := ne_of_none z nHq
        have n2 : b ≠ l' := ne_of_none z nHl
        rw [upd_ne n1, upd_ne nb, upd_ne n2, upd_ne nb]
        exact z
      · rw [e]
        exact upd_same
/-! ### material -/
def spMaterial (CS CM : Addr) : Sp := fun vs H Q _ => ∃ (p l : Addr) (s : Si81.Shelf) (m : Si81.Material), vs = [.ref p, .int m.strong, .int m.lasts, .int m.most] ∧ ShAt CS CM H p l s ∧ s.materials.length ≤ 4 ∧ Done CS CM p l s (.material m) H Q
theorem scMaterial : FnScope ["self", "strong", "lasts", "drops"] ["self", "strong", "lasts", "drops"] (defScope sMaterial) := ⟨rfl, rfl, rfl, by decide +kernel, rfl, by decide +kernel, by decide +kernel⟩
theorem ok_material {f : Addr} {fd : FuncData} (F : Fun K "material" "Shelf.material" sMaterial f fd) (T : Txt K mg CM CS) (W : Fn P w K mg base "is_material" 2 ["strong", "lasts", "drops"] spIsMat) (M : Mak P w K mg base CM 1 ["self", "strong", "lasts", "most"] (spMatInit CM)) :
    FnOk P w K mg base CX0 3 f fd ["self", "strong", "lasts", "drops"] (spMaterial CS CM) := by
  obtain ⟨fW, fdW, GW, mW, kW, bW⟩ := W
  obtain ⟨fM, fdM, GM, MM, bM⟩ := M
  refine F.ok scMaterial (fun vs H Q E h => ?_) (fun cdv A outer s0 H vs Q E hr h => ?_)
  · obtain ⟨p, l, s, m, rfl, _⟩ := h
    rfl
  · obtain ⟨p, l, s, m, rfl, hS, h4, k⟩ := h
    obtain ⟨dx, hp, as, hl, hM⟩ := id hS
    refine ⟨_, pss_cons (ps_if (pt_not (pt_val (pe_call GW hr rfl mW kW bW .nil pass0 (pa_cons (pv 1) (pa_cons (pv 2) (pa_cons (pv 3) pa_nil)))))) (pss_one (ps_ret (pe_lst (pa_cons (pe_gint T.cNotAsTold rfl) pa_nil)))) pss_nil)
      (pss_cons (ps_if (pt_cmpR op_eq (pe_callB call_len_seq (by rfl) T.bLen PySem.boot_len (pa_cons (pe_fld (pv 0) rfl) pa_nil)) (pe_gint T.cMostMaterials rfl) (nomark _)) (pss_one (ps_ret (pe_lst (pa_cons (pe_gint T.cNoRoom rfl) pa_nil)))) pss_nil)
      (pss_cons (ps_expr (pe_bm PySem.F.plainAttrs_list PySem.F.slot_list_append PySem.F.type_list_append mt_append (pe_fld (pv 0) rfl) (pa_cons (pe_make MM GM hr rfl T.mgM bM .nil pass0 (pa_cons (pv 1) (pa_cons (pv 2) (pa_cons (pv 3) pa_nil)))) pa_nil)))
      (pss_one (ps_ret (pe_lst (pa_cons (pe_op op_sub (pe_callB call_len_seq (by rfl) T.bLen PySem.boot_len (pa_cons (pe_fld (pv 0) rfl) pa_nil)) pe_int) pa_nil)))))), ?_⟩
    refine ⟨_, rfl, _, rfl, _, rfl, _, _, _, rfl, _, rfl, ?_⟩
    cases c : matOk (m.strong : Int) (m.lasts : Int) (m.most : Int) with
    | false =>
      refine iteT ⟨(by show 1 ≤ sizeLine; decide), fun q hq => ?_⟩
      have bad : m.strong < 1 ∨ Si81.STRONG < m.strong ∨ m.lasts < 1 ∨ Si81.LASTS < m.lasts ∨ Si81.EACH < m.most := by
        unfold matOk at c
        simp only [Bool.and_eq_false_iff, decide_eq_false_iff_not] at c
        show m.strong < 1 ∨ 100 < m.strong ∨ m.lasts < 1 ∨ 24 < m.lasts ∨ 5 < m.most
        omega
      exact Done.pure k (r := Si81.ok (-1)) (if_pos bad) hS (Same.new hq) hq upd_same
    | true =>
      have good : ¬ (m.strong < 1 ∨ Si81.STRONG < m.strong ∨ m.lasts < 1 ∨ Si81.LASTS < m.lasts ∨ Si81.EACH < m.most) := by
        unfold matOk at c
        simp only [Bool.and_eq_true, decide_eq_true_eq] at c
        show ¬ (m.strong < 1 ∨ 100 < m.strong ∨ m.lasts < 1 ∨ 24 < m.lasts ∨ 5 < m.most)
        omega
      refine iteF ⟨_, rfl, p, CS, dx, _, _, rfl, hp, T.clS, T.sMats, sf_mats _ _, l, _, rfl, .inl (SqL.of hl), rfl, _, rfl, ?_⟩
      have elen : (as.map V.ref).length = s.count := by rw [List.length_map]; exact hM.len
      refine ite2 (fun c4 => ?_) (fun c4 => ?_)
      · have full : Si81.MATERIALS ≤ s.count := by
          have := V.int.inj (of_decide_eq_true c4)
          show 4 ≤ s.count
          omega
        refine ⟨(by show 1 ≤ sizeLine; decide), fun q hq => ?_⟩
        exact Done.pure k (r := Si81.ok (-5)) ((if_neg good).trans (if_pos full)) hS (Same.new hq) hq upd_same
      · have room : ¬ Si81.MATERIALS ≤ s.count := by
          show ¬ 4 ≤ s.count
          intro z
          apply c4
          apply decide_eq_true
          have : s.count ≤ 4 := h4
          rw [elen]
          congr 1
          omega
        refine ⟨_, rfl, p, CS, dx, _, _, rfl, hp, T.clS, T.sMats, sf_mats _ _, .inl ⟨rfl, _, SqL.of hl⟩, _, rfl, _, rfl, _, rfl, fun x dm nx nd nxd => ?_⟩
        refine ⟨x, dm, m, rfl, upd_same, fun H2 hA k2 => ⟨rfl, ?_⟩⟩
        have s2 : Same H H2 := Same.made nx nd k2
        have hl2 := s2 _ _ hl
        refine ⟨l, _, _, rfl, rfl, hl2, ?_, ?_⟩
        · rw [elen]
          have : s.count ≤ 4 := h4
          rw [sizeLine_eq]; omega
        · have npl : p ≠ l := ne_of hp hl (by intro z; cases z)
          have hp3 : (upd H2 l (.lst (as.map V.ref ++ [.ref x]))) p = some (.ins CS dx (sf s.drops l)) := by rw [upd_ne npl]; exact s2 _ _ hp
          have hl3 : (upd H2 l (.lst (as.map V.ref ++ [.ref x]))) l = some (.lst (as.map V.ref ++ [.ref x])) := upd_same
          refine ⟨_, rfl, p, CS, dx, _, _, rfl, hp3, T.clS, T.sMats, sf_mats _ _, l, _, rfl, .inl (SqL.of hl3), _, _, rfl, rfl, (by show 1 ≤ sizeLine; decide), fun q hq => ?_⟩
          have npq : p ≠ q := ne_of_none hp3 hq
          have nlq : l ≠ q := ne_of_none hl3 hq
          have nH2q : H2 q = none := by rw [upd_ne nlq.symm] at hq; exact hq
          have nHq : H q = none := s2.free nH2q
          have e : Si81.step s (.material m) = ({ s with materials := s.materials ++ [m] }, Si81.ok ((s.count : Nat) : Int)) := (if_neg good).trans (if_neg room)
          refine k _ l q ?_ (.inl rfl) (fun b o z nb nb2 => ?_) nHq ?_
          · rw [e]
            refine ⟨dx, by rw [upd_ne npq]; exact hp3, as ++ [x], by rw [upd_ne nlq, hl3, List.map_append]; rfl, ?_, fun j a m' h1 h2 => ?_⟩
            · rw [List.length_append, List.length_append, hM.len]
              rfl
            · have at' : ∀ {a : Addr} {m' : Si81.Material}, MatAt CM H2 a m' → MatAt CM (upd (upd H2 l (.lst (as.map V.ref ++ [.ref x]))) q (.lst [(fun i j => V.int (i - j)) ((as.map V.ref ++ [V.ref x]).length : Int) 1])) a m' := fun {a m'} ⟨d0, z⟩ => by
                have n1 : a ≠ l := ne_of z hl2 (by intro y; cases y)
                have n2 : a ≠ q := ne_of_none z nH2q
                exact ⟨d0, by rw [upd_ne n2, upd_ne n1]; exact z⟩
              by_cases hj : j < as.length
              · rw [List.getElem?_append_left hj] at h1
                rw [List.getElem?_append_left (by rw [← hM.len]; exact hj)] at h2
                exact at' ((hM.same s2).at_ j a m' h1 h2)
              · have hj2 : j < (as ++ [x]).length := (List.getElem?_eq_some_iff.mp h1).1
                have ej : j = as.length := by rw [List.length_append, List.length_singleton] at hj2; omega
                subst ej
                rw [List.getElem?_append_right (Nat.le_refl _), Nat.sub_self] at h1
                rw [hM.len, List.getElem?_append_right (Nat.le_refl _), Nat.sub_self] at h2
                have e1 : x = a := Option.some.inj h1
                have e2 : m = m' := Option.some.inj h2
                subst e1 e2
                exact at' hA
          · have n1 : b ≠ q := ne_of_none z nHq
            rw [upd_ne n1, upd_ne nb2]
            exact s2 _ _ z
          · rw [e, upd_same]
            show some (HO.lst [V.int (((as.map V.ref ++ [V.ref x]).length : Int) - 1)]) = some (HO.lst [V.int ((s.count : Nat) : Int)])
            have : (((as.map V.ref ++ [V.ref x]).length : Int) - 1) = ((s.count : Nat) : Int) := by
              rw [List.length_append, elen, List.length_singleton]
              omega
            rw [this]
end
end Sm
end
section
set_option Elab.async false
set_option linter.all false
set_option maxRecDepth 100000
set_option maxHeartbeats 2000000
namespace Sm
open PySem PySem.Spec L2
open PyProof.Rows hiding St
theorem ints_sum (l : List Nat) : (Si81.ints l).sum = ((l.sum : Nat) : Int) := by
  induction l with
  | nil => rfl
  | cons a l ih =>
    show ((a : Int) :: Si81.ints l).sum = _
    rw [List.sum_cons, ih, List.sum_cons, Int.natCast_add]
theorem getD_of {f : List Nat} {i d : Nat} (h : f[i]? = some d) : f.getD i 0 = d := by
  rw [List.getD_eq_getElem?_getD, h]
  rfl
section
variable {P : Program} {w : World} {K : PySem.W.Frag} {mg : Str → Option Value} {base : Heap} {CM CS : Addr}
/-! ### may_be -/
def spMayBe (K : PySem.W.Frag) (CS CM : Addr) : Sp := fun vs H Q _ => ∃ (p l q : Addr) (s : Si81.Shelf) (f : List Nat), vs = [.ref p, .ref q] ∧ ShAt CS CM H p l s ∧ SqL K H q (nv f) ∧ f.length = s.count ∧ ∀ H' : Hp, Same H H' → Q (.bl (s.right f)) H'
theorem scMayBe : FnScope ["self", "formula", "material", "drops"] ["self", "formula"] (defScope sMayBe) := ⟨rfl, rfl, rfl, by decide +kernel, rfl, by decide +kernel, by decide +kernel⟩
theorem ok_mayBe {f : Addr} {fd : FuncData} (F : Fun K "may_be" "Shelf.may_be" sMayBe f fd) (T : Txt K mg CM CS) : FnOk P w K mg base CX0 1 f fd ["self", "formula"] (spMayBe K CS CM) := by
  refine F.ok scMayBe (fun vs H Q E h => ?_) (fun cdv A outer s0 H vs Q E hr h => ?_)
  · obtain ⟨p, l, q, s, f, rfl, _⟩ := h
    rfl
  · obtain ⟨p, l, q, s, f, rfl, hS, hq, hlen, k⟩ := h
    obtain ⟨dx, hp, as, hl, hM⟩ := id hS
    refine ⟨_, pss_cons (ps_for PassesOwn.never rfl (pi_zip rfl T.bZip (pa_cons (pe_fld (pv 0) rfl) (pa_cons (pv 1) pa_nil))) (pg_tup rfl (pgs_cons (pg_name (i := 2) scMayBe.nd rfl (Or.inl rfl)) (pgs_cons (pg_name (i := 3) scMayBe.nd rfl (Or.inl rfl)) pgs_nil)))
        (pss_one (ps_if (pt_cmpR op_gt (pv 3) (pe_fld (pv 2) rfl) (nomark _)) (pss_one (ps_ret pe_bl)) pss_nil)))
      (pss_one (ps_ret (pe_cmpR op_le (pe_callB (cr_sum rfl) rfl T.bSum boot_sum (pa_cons (pv 1) pa_nil)) (pe_fld (pv 0) rfl) (nomark _)))), ?_⟩
    have told : s.told f = true := by
      unfold Si81.Shelf.told
      exact beq_iff_eq.mpr hlen
    refine ⟨_, rfl, p, CS, dx, _, _, rfl, hp, T.clS, T.sMats, sf_mats _ _, _, rfl, l, q, _, _, rfl, SqL.of hl, hq, for_zip (K := K) (a := l) (b := q) (xs := as.map V.ref) (ys := nv f) (n := s.count)
      (fun i σ H' => ∃ v2 v3 : Option V, σ = [some (.ref p), some (.ref q), v2, v3] ∧ Same H H' ∧ ∀ j, j < i → f.getD j 0 ≤ (s.material j).most) ?_ ⟨none, none, rfl, Same.rfl', fun j hj => absurd hj (Nat.not_lt_zero _)⟩
      (fun i σ H' _ ⟨_, _, _, s5, _⟩ => ⟨SqL.of (s5 _ _ hl), s5.seq hq⟩) ?_ ?_⟩
    · rw [List.length_map, List.length_map, hM.len, hlen]
      exact (Nat.min_self _).symm
    · rintro i x y σ H' hi hj ⟨v2, v3, rfl, s5, hall⟩ U hU
      obtain ⟨a, ha, rfl⟩ : ∃ a, as[i]? = some a ∧ x = V.ref a := by
        rw [List.getElem?_map] at hi
        cases e : as[i]? with
        | none => rw [e] at hi; cases hi
        | some a => rw [e] at hi; exact ⟨a, rfl, (Option.some.inj hi).symm⟩
      have hil : i < as.length := (List.getElem?_eq_some_iff.mp ha).1
      have him : i < s.materials.length := by rw [← hM.len]; exact hil
      obtain ⟨m, hm⟩ : ∃ m, s.materials[i]? = some m := ⟨_, List.getElem?_eq_getElem him⟩
      have em := material_of hm
      obtain ⟨d, hd⟩ : ∃ d, f[i]? = some d := ⟨_, List.getElem?_eq_getElem (show i < f.length by rw [hlen]; exact him)⟩
      rw [nv_get hd] at hj
      cases hj
      have s6 : Same H (upd H' U (.tup [.ref a, .int (d : Nat)])) := s5.trans (Same.new hU)
      obtain ⟨dm, hA⟩ := (hM.same s6).at_ i a m ha hm
      refine ⟨U, _, rfl, SqT.of upd_same, rfl, _, _, rfl, _, _, rfl, rfl, _, rfl, _, rfl, a, CM, dm, _, _, rfl, hA, T.clM, T.mMost, mf_most m, _, _, rfl, rfl, _, rfl, ?_⟩
      refine ite2 (fun c => ?_) (fun c => ?_)
      · have c' : m.most < d := by
          have := of_decide_eq_true c
          omega
        have e : s.right f = false := by
          unfold Si81.Shelf.right
          have e1 : ((List.range s.count).all fun i => decide (f.getD i 0 ≤ (s.material i).most)) = false := by
            rw [List.all_eq_false]
            refine ⟨i, List.mem_range.mpr him, ?_⟩
            rw [getD_of hd, em]
            simpa using c'
          rw [e1, Bool.false_and, Bool.and_false]
        have k1 := k _ s6
        rw [e] at k1
        exact k1
      · have c' : d ≤ m.most := by
          have : ¬ ((m.most : Nat) : Int) < ((d : Nat) : Int) := fun z => c (decide_eq_true z)
          omega
        refine ⟨_, _, rfl, s6, fun j hj => ?_⟩
        by_cases e : j = i
        · subst e
          rw [getD_of hd, em]
          exact c'
        · exact hall j (by omega)
    · rintro σ H' ⟨v2, v3, rfl, s5, hall⟩
      refine ⟨_, rfl, q, Si81.ints f, rfl, ?_, _, rfl, p, CS, dx, _, _, rfl, s5 _ _ hp, T.clS, T.sDrops, sf_drops _ _, _, _, rfl, rfl, ?_⟩
      · have := s5.seq hq
        rw [nv_iv] at this
        exact this
      · have e : s.right f = decide (f.sum ≤ s.drops) := by
          unfold Si81.Shelf.right
          have e1 : ((List.range s.count).all fun i => decide (f.getD i 0 ≤ (s.material i).most)) = true := by
            rw [List.all_eq_true]
            intro j hj
            exact decide_eq_true (hall j (List.mem_range.mp hj))
          rw [e1, told, Bool.true_and, Bool.true_and]
        have k1 := k H' s5
        rw [e] at k1
        have e2 : decide ((Si81.ints f).sum ≤ ((s.drops : Nat) : Int)) = decide (f.sum ≤ s.drops) := by
          rw [ints_sum]
          exact decide_eq_decide.mpr (by omega)
        rw [← e2] at k1
        exact k1
/-! ### course -/
def spCourse (K : PySem.W.Frag) (CS CM : Addr) : Sp := fun vs H Q _ => ∃ (p l q : Addr) (s : Si81.Shelf) (f : List Nat), vs = [.ref p, .ref q] ∧ ShAt CS CM H p l s ∧ SqL K H q (nv f) ∧ Good s ∧ Done CS CM p l s (.course f) H Q
theorem scCourse : FnScope ["self", "formula"] ["self", "formula"] (defScope sCourse) := ⟨rfl, rfl, rfl, by decide +kernel, rfl, by decide +kernel, by decide +kernel⟩
theorem right_small {s : Si81.Shelf} {f : List Nat} (g : Good s) (hlen : f.length = s.count) (h : s.right f = true) : ∀ x ∈ f, x ≤ 5 := by
  intro x hx
  obtain ⟨i, hi, e⟩ := List.getElem_of_mem hx
  unfold Si81.Shelf.right at h
  rw [Bool.and_eq_true, Bool.and_eq_true, List.all_eq_true] at h
  have h1 := of_decide_eq_true (h.2.1 i (List.mem_range.mpr (by rw [← hlen]; exact hi)))
  rw [getD_of (List.getElem?_eq_getElem hi), e] at h1
  have := (g.mat _ (material_get (show i < s.count by rw [← hlen]; exact hi))).2.2.2.2
  omega
theorem ok_course {f : Addr} {fd : FuncData} (F : Fun K "course" "Shelf.course" sCourse f fd) (T : Txt K mg CM CS) (B : Mth P w K mg base CS "may_be" 3 ["self", "formula"] (spMayBe K CS CM)) (O : Fn P w K mg base "over_at" 3 ["materials", "formula"] (spOver K CM))
    (U : Fn P w K mg base "turns" 3 ["materials", "formula"] (spTurns K CM)) : FnOk P w K mg base CX0 4 f fd ["self", "formula"] (spCourse K CS CM) := by
  obtain ⟨fB, fdB, GB, mB, bB⟩ := B
  obtain ⟨fO, fdO, GO, mO, kO, bO⟩ := O
  obtain ⟨fU, fdU, GU, mU, kU, bU⟩ := U
  refine F.ok scCourse (fun vs H Q E h => ?_) (fun cdv A outer s0 H vs Q E hr h => ?_)
  · obtain ⟨p, l, q, s, f, rfl, _⟩ := h
    rfl
  · obtain ⟨p, l, q, s, f, rfl, hS, hq, hG, k⟩ := h
    obtain ⟨dx, hp, hL⟩ := id hS
    obtain ⟨as, hl, hM⟩ := id hL
    refine ⟨_, pss_cons (ps_if (pt_cmpR op_ne (pe_callB call_len_seq (by rfl) T.bLen PySem.boot_len (pa_cons (pv 1) pa_nil)) (pe_callB call_len_seq (by rfl) T.bLen PySem.boot_len (pa_cons (pe_fld (pv 0) rfl) pa_nil)) (nomark _))
        (pss_one (ps_ret (pe_lst (pa_cons (pe_gint T.cNotAsTold rfl) pa_nil)))) pss_nil)
      (pss_cons (ps_if (pt_not (pt_val (pe_meth (pv 0) T.clS mB GB hr bB .nil pass0 (pa_cons (pv 1) pa_nil)))) (pss_one (ps_ret (pe_lst (pa_cons (pe_gint T.cMayNot rfl) pa_nil)))) pss_nil)
      (pss_one (ps_ret (pe_op op_cat (pe_lst (pa_cons (pe_call GO hr rfl mO kO bO .nil pass0 (pa_cons (pe_fld (pv 0) rfl) (pa_cons (pv 1) pa_nil))) pa_nil)) (pe_call GU hr rfl mU kU bU .nil pass0 (pa_cons (pe_fld (pv 0) rfl) (pa_cons (pv 1) pa_nil))))))), ?_⟩
    refine ⟨_, rfl, q, _, rfl, .inl hq, _, rfl, p, CS, dx, _, _, rfl, hp, T.clS, T.sMats, sf_mats _ _, l, _, rfl, .inl (SqL.of hl), rfl, _, rfl, ?_⟩
    have el : (as.map V.ref).length = s.count := by rw [List.length_map]; exact hM.len
    have eq : (nv f).length = f.length := List.length_map _
    by_cases ht : f.length = s.count
    · have told : s.told f = true := beq_iff_eq.mpr ht
      refine iteNS (by rw [el, eq, ht]) ?_
      refine ⟨_, rfl, p, dx, _, rfl, hp, sf_no _ _ (by decide +kernel) (by decide +kernel), _, rfl, p, l, q, s, f, rfl, hS, hq, ht, fun H1 s1 => ⟨_, rfl, ?_⟩⟩
      cases c : s.right f with
      | false =>
        refine iteT ⟨(by show 1 ≤ sizeLine; decide), fun b hb => ?_⟩
        have e : Si81.step s (.course f) = (s, Si81.ok (-4)) := (if_neg (by rw [told]; decide)).trans (if_pos c)
        exact Done.pure k e hS (s1.trans (Same.new hb)) (s1.free hb) upd_same
      | true =>
        have hF : FOk s f := ⟨hG, ht, right_small hG ht c⟩
        refine iteF ⟨_, rfl, p, CS, dx, _, _, rfl, s1 _ _ hp, T.clS, T.sMats, sf_mats _ _, _, rfl, l, q, s, f, rfl, hL.same s1, s1.seq hq, hF, fun H2 s2 => ⟨(by show 1 ≤ sizeLine; decide), fun b hb => ?_⟩⟩
        have s12 := s1.trans s2
        have s3 : Same H (upd H2 b (.lst [.int (s.over f : Nat)])) := s12.trans (Same.new hb)
        refine ⟨_, rfl, p, CS, dx, _, _, rfl, s3 _ _ hp, T.clS, T.sMats, sf_mats _ _, _, rfl, l, q, s, f, rfl, hL.same s3, s3.seq hq, hF, fun H4 t s4 nt ht4 => ?_⟩
        have hb4 : H4 b = some (.lst [.int (s.over f : Nat)]) := s4 _ _ upd_same
        refine ⟨b, t, _, _, rfl, rfl, hb4, ht4, ?_, fun z hz => ?_⟩
        · rw [List.length_map]
          have h1 : (flat2 (s.course f)).length ≤ 2 * s.over f := ledTo_len s f (s.over f)
          have h2 : s.over f ≤ 24 := over_le hG
          show 1 + _ ≤ _
          rw [sizeLine_eq]
          omega
        · have e : Si81.step s (.course f) = (s, ⟨((s.over f : Nat) : Int), Si81.ints (flat2 (s.course f))⟩) := (if_neg (by rw [told]; decide)).trans (if_neg (by rw [c]; decide))
          refine Done.pure k e hS ((s3.trans s4).trans (Same.new hz)) ((s3.trans s4).free hz) ?_
          rw [upd_same, nv_iv]
          rfl
    · have told : s.told f = false := beq_eq_false_iff_ne.mpr ht
      have ne : (!decide (V.int ((nv f).length : Int) = V.int ((as.map V.ref).length : Int))) = true := by
        rw [el, eq]
        have : ¬ V.int ((f.length : Nat) : Int) = V.int ((s.count : Nat) : Int) := fun z => ht (by have := V.int.inj z; omega)
        rw [decide_eq_false this]
        rfl
      rw [ne]
      refine iteT ⟨(by show 1 ≤ sizeLine; decide), fun b hb => ?_⟩
      exact Done.pure k (r := Si81.ok (-1)) (if_pos told) hS (Same.new hb) hb upd_same
end
end Sm
end
section
set_option Elab.async false
set_option linter.all false
set_option maxRecDepth 100000
set_option maxHeartbeats 2000000
namespace Sm
open PySem PySem.Spec L2
open PyProof.Rows hiding St
theorem course_fst (s : Si81.Shelf) (f : List Nat) : evens (nv (flat2 (s.course f))) = nv (s.order f) := by
  unfold nv
  rw [evens_map, evens_flat2]
  rfl
theorem course_snd (s : Si81.Shelf) (f : List Nat) : odds (nv (flat2 (s.course f))) = iv (Si81.ints ((s.course f).map fun x => x.2)) := by
  rw [← nv_iv]
  unfold nv
  rw [odds_map, odds_flat2]
section
variable {P : Program} {w : World} {K : PySem.W.Frag} {mg : Str → Option Value} {base : Heap} {CM CS CX : Addr}
/-! ### Mixture.__init__ -/
def spMixInit (CX : Addr) : Sp := fun vs H Q _ => ∃ (x dx fa la : Addr) (s : Si81.Shelf) (f : List Nat), vs = [.ref x, .ref fa, .ref la] ∧ H x = some (.ins CX dx []) ∧ NatsAt H fa f ∧ NatsAt H la (flat2 (s.course f)) ∧
  ∀ (H' : Hp) (oa : Addr), H' x = some (.ins CX dx (xf fa f.sum oa (s.shortest f))) → NatsAt H' oa (s.order f) → H oa = none → (∀ b o, H b = some o → b ≠ x → H' b = some o) → Q .non H'
theorem scMixInit : FnScope ["self", "formula", "led"] ["self", "formula", "led"] (defScope sMixInit) := ⟨rfl, rfl, rfl, by decide +kernel, rfl, by decide +kernel, by decide +kernel⟩
theorem ok_mixInit {f : Addr} {fd : FuncData} (F : Fun K "__init__" "Mixture.__init__" sMixInit f fd) (T : Txt K mg CM CS) (TX : TxtX K mg CX) : FnOk P w K mg base CX0 1 f fd ["self", "formula", "led"] (spMixInit CX) := by
  refine F.ok scMixInit (fun vs H Q E h => ?_) (fun cdv A outer s0 H vs Q E hr h => ?_)
  · obtain ⟨x, dx, fa, la, s, f, rfl, _⟩ := h
    rfl
  · obtain ⟨x, dx, fa, la, s, f, rfl, hx, hf, hl, k⟩ := h
    have hf0 : H fa = some (.lst (nv f)) := hf
    have hl0 : H la = some (.lst (nv (flat2 (s.course f)))) := hl
    refine ⟨_, pss_cons (ps_fld (pv 0) (pv 1) rfl) (pss_cons (ps_fld (pv 0) (pe_callB (cr_sum rfl) rfl T.bSum boot_sum (pa_cons (pv 1) pa_nil)) rfl)
      (pss_cons (ps_fld (pv 0) (pe_half (pv 2) po_none) rfl) (pss_one (ps_fld (pv 0) (pe_minD rfl rfl T.bMin (pa_cons (pe_half (pv 2) (po_some pe_int)) pa_nil) (pk_cons pe_int pk_nil)) rfl)))), ?_⟩
    have nfx : fa ≠ x := ne_of hf0 hx (by intro z; cases z)
    have nlx : la ≠ x := ne_of hl0 hx (by intro z; cases z)
    refine ⟨_, rfl, _, rfl, x, CX, dx, [], rfl, hx, TX.cl, TX.nForm, (by show 0 < 1000; decide), ?_⟩
    refine ⟨_, rfl, fa, Si81.ints f, rfl, ?_, _, rfl, x, CX, dx, _, rfl, upd_same, TX.cl, TX.nDrops, (by show 1 < 1000; decide), ?_⟩
    · have : (upd H x (.ins CX dx (putF "formula" (.ref fa) []))) fa = some (.lst (nv f)) := by rw [upd_ne nfx]; exact hf0
      rw [nv_iv] at this
      exact SqL.of this
    · rw [ints_sum]
      refine ⟨_, rfl, la, _, rfl, SqL.of (by rw [upd_ne nlx, upd_ne nlx]; exact hl0), .inl ⟨rfl, fun oa noa => ?_⟩⟩
      rw [course_fst]
      have nxo : x ≠ oa := ne_of_none (upd_same (H := upd H x (.ins CX dx (putF "formula" (.ref fa) [])))) noa
      refine ⟨_, rfl, x, CX, dx, _, rfl, by rw [upd_ne nxo]; exact upd_same, TX.cl, TX.nOrder, (by show 2 < 1000; decide), ?_⟩
      have nHo : H oa = none := by rw [upd_ne nxo.symm, upd_ne nxo.symm] at noa; exact noa
      have nlo : la ≠ oa := ne_of_none hl0 nHo
      have nfo : fa ≠ oa := ne_of_none hf0 nHo
      refine ⟨_, rfl, _, rfl, la, _, rfl, SqL.of (by rw [upd_ne nlx, upd_ne nlo, upd_ne nlx, upd_ne nlx]; exact hl0), .inr ⟨rfl, fun ea nea => ?_⟩⟩
      rw [course_snd]
      have nxe : x ≠ ea := ne_of_none upd_same nea
      have noe : oa ≠ ea := ne_of_none (by rw [upd_ne nxo.symm]; exact upd_same) nea
      have nHe : H ea = none := by rw [upd_ne nxe.symm, upd_ne noe.symm, upd_ne nxe.symm, upd_ne nxe.symm] at nea; exact nea
      have nfe : fa ≠ ea := ne_of_none hf0 nHe
      have last : ∀ m : Int, m = (s.shortest f : Int) → Q .non (upd (upd (upd (upd (upd (upd H x (.ins CX dx (putF "formula" (.ref fa) []))) x (.ins CX dx (putF "drops" (.int (f.sum : Nat)) (putF "formula" (.ref fa) [])))) oa (.lst (nv (s.order f))))
          x (.ins CX dx (putF "order" (.ref oa) (putF "drops" (.int (f.sum : Nat)) (putF "formula" (.ref fa) []))))) ea (.lst (iv (Si81.ints ((s.course f).map fun x => x.2)))))
          x (.ins CX dx (putF "evenness" (.int m) (putF "order" (.ref oa) (putF "drops" (.int (f.sum : Nat)) (putF "formula" (.ref fa) [])))))) := by
        intro m em
        subst em
        refine k _ oa upd_same ?_ nHo fun b o e hb => ?_
        · show _ = some _
          rw [upd_ne nxo.symm, upd_ne noe, upd_ne nxo.symm]
          exact upd_same
        · have n1 : b ≠ oa := ne_of_none e nHo
          have n2 : b ≠ ea := ne_of_none e nHe
          rw [upd_ne hb, upd_ne n2, upd_ne hb, upd_ne n1, upd_ne hb, upd_ne hb]
          exact e
      refine ⟨ea, _, _, rfl, rfl, SqL.of upd_same, fun e => ?_, fun m h1 h2 => ?_⟩
      · refine ⟨_, rfl, x, CX, dx, _, rfl, by rw [upd_ne nxe]; exact upd_same, TX.cl, TX.nEven, (by show 3 < 1000; decide), ?_⟩
        exact last 0 (by rw [shortest_nil e]; rfl)
      · refine ⟨_, rfl, x, CX, dx, _, rfl, by rw [upd_ne nxe]; exact upd_same, TX.cl, TX.nEven, (by show 3 < 1000; decide), ?_⟩
        exact last m (shortest_min h1 h2)
end
end Sm
end
section
set_option Elab.async false
set_option linter.all false
set_option maxRecDepth 100000
set_option maxHeartbeats 2000000
namespace Sm
open PySem PySem.Spec L2
open PyProof.Rows hiding St
/-- no test -/
theorem yesI {σ : L2.St} {H : Hp} {A B : Hp → Prop} (h : A H) : tYes σ H (fun b H3 => if b = true then A H3 else B H3) := by
  show (if true = true then A H else B H)
  rw [if_pos rfl]
  exact h
theorem NatsAt.same {H H' : Hp} {a : Addr} {f : List Nat} (e : Same H H') (h : NatsAt H a f) : NatsAt H' a f := e _ _ h
theorem LLst.same {H H' : Hp} {q : Addr} {fs : List (List Nat)} (e : Same H H') (h : LLst H q fs) : LLst H' q fs :=
  let ⟨as, h1, h2⟩ := h; ⟨as, e _ _ h1, h2.mono fun _ _ z => z.same e⟩
theorem XLst.same {CX : Addr} {H H' : Hp} {s : Si81.Shelf} {q : Addr} {fs : List (List Nat)} (e : Same H H') (h : XLst CX H s q fs) : XLst CX H' s q fs :=
  let ⟨as, h1, h2⟩ := h; ⟨as, e _ _ h1, h2.mono fun _ _ z => z.same e⟩
theorem refs_get {as : List Addr} {i : Nat} {x : V} (h : (as.map V.ref)[i]? = some x) : ∃ a, as[i]? = some a ∧ x = V.ref a := by
  rw [List.getElem?_map] at h
  cases e : as[i]? with
  | none => rw [e] at h; cases h
  | some a => rw [e] at h; exact ⟨a, rfl, (Option.some.inj h).symm⟩
theorem grow_app (m : Nat) (a b : List (List Nat)) : grow m (a ++ b) = grow m a ++ grow m b := by
  unfold grow
  rw [List.flatMap_append]
theorem grow_one (m : Nat) (f : List Nat) : grow m [f] = (List.range (m + 1)).map fun d => f ++ [d] := by
  unfold grow
  rw [List.flatMap_cons]
  exact List.append_nil _
theorem grow_len (m : Nat) (b : List (List Nat)) : (grow m b).length = b.length * (m + 1) := by
  unfold grow
  exact flat_len _ _ _ fun a _ => by rw [List.length_map, List.length_range]
theorem range_more (f : List Nat) (k : Nat) : ((List.range (k + 1)).map fun d => f ++ [d]) = ((List.range k).map fun d => f ++ [d]) ++ [f ++ [k]] := by
  rw [List.range_succ, List.map_append]
  rfl
section
variable {P : Program} {w : World} {K : PySem.W.Frag} {mg : Str → Option Value} {base : Heap} {CM CS CX : Addr}
/-! ### formulas -/
def spFormulas (CS CM : Addr) : Sp := fun vs H Q _ => ∃ (p l : Addr) (s : Si81.Shelf), vs = [.ref p] ∧ ShAt CS CM H p l s ∧ Good s ∧ ∀ (H' : Hp) (q : Addr), Same H H' → H q = none → LLst H' q s.formulas → Q (.ref q) H'
theorem scFormulas : FnScope ["self", "begun", "material", "longer", "formula", "drops"] ["self"] (defScope sFormulas) := ⟨rfl, rfl, rfl, by decide +kernel, rfl, by decide +kernel, by decide +kernel⟩
theorem ok_formulas {f : Addr} {fd : FuncData} (F : Fun K "formulas" "Shelf.formulas" sFormulas f fd) (T : Txt K mg CM CS) (B : Mth P w K mg base CS "may_be" 1 ["self", "formula"] (spMayBe K CS CM)) :
    FnOk P w K mg base CX0 2 f fd ["self"] (spFormulas CS CM) := by
  obtain ⟨fB, fdB, GB, mB, bB⟩ := B
  refine F.ok scFormulas (fun vs H Q E h => ?_) (fun cdv A outer s0 H vs Q E hr h => ?_)
  · obtain ⟨p, l, s, rfl, _⟩ := h
    rfl
  · obtain ⟨p, l, s, rfl, hS, hG, k⟩ := h
    obtain ⟨dx, hp, as, hl, hM⟩ := id hS
    refine ⟨_, pss_cons (ps_set (i := 1) scFormulas.nd rfl (Or.inl rfl) (pe_lst (pa_cons (pe_lst pa_nil) pa_nil)))
      (pss_cons (ps_for PassesOwn.never rfl (pi_list (pe_fld (pv 0) rfl)) (pg_name (i := 2) scFormulas.nd rfl (Or.inl rfl))
        (pss_cons (ps_set (i := 3) scFormulas.nd rfl (Or.inl rfl) (pe_lst pa_nil))
        (pss_cons (ps_for PassesOwn.never rfl (pi_list (pv 1)) (pg_name (i := 4) scFormulas.nd rfl (Or.inr rfl))
          (pss_one (ps_expr (pe_bm PySem.F.plainAttrs_list PySem.F.slot_list_extend PySem.F.type_list_extend mt_extend (pv 3) (pa_cons
            (pe_lc (own := [("drops", 5)]) (g := gName 5) (tt := tYes) (te := tOp rCat (tVar 4) (tLst (tCons (tVar 5) tNil))) rfl scFormulas.nd (pi_range1 rfl T.bRange (pa_cons (pe_op op_add (pe_fld (pv 2) rfl) pe_int) pa_nil))
              (blkOk_by (by show blkC ["self", "begun", "material", "longer", "formula", "drops"] (defScope sFormulas) _ _ = true; decide +kernel))
              (fun _ _ _ _ _ => pg_name (i := 5) scFormulas.nd rfl (Or.inl rfl)) (fun _ _ _ _ _ => pts_nil) (fun _ _ _ _ _ => pe_op op_cat (pv 4) (pe_lst (pa_cons (pv 5) pa_nil)))) pa_nil)))))
        (pss_one (ps_set (i := 1) scFormulas.nd rfl (Or.inl rfl) (pv 3))))))
      (pss_one (ps_ret (pe_lc (own := [("formula", 4)]) (g := gName 4) (tt := tTest (tMeth CS "may_be" (spMayBe K CS CM) [] E0 (tVar 0) (tCons (tVar 4) tNil))) (te := tVar 4) rfl scFormulas.nd (pi_list (pv 1))
        (blkOk_by (by show blkC ["self", "begun", "material", "longer", "formula", "drops"] (defScope sFormulas) _ _ = true; decide +kernel))
        (fun _ _ _ _ _ => pg_name (i := 4) scFormulas.nd rfl (Or.inl rfl)) (fun _ _ _ _ _ => pts_one (pt_val (pe_meth (pv 0) T.clS mB GB hr bB .nil pass0 (pa_cons (pv 4) pa_nil)))) (fun _ _ _ _ _ => pv 4))))), ?_⟩
    have sz := sizeLine_eq
    -- begun = [[]]
    refine ⟨Nat.zero_le _, fun e0 he0 => ⟨(by show 1 ≤ sizeLine; decide), fun B0 hB0 => ?_⟩⟩
    have ne0 : e0 ≠ B0 := ne_of_none upd_same hB0
    have sA : Same H (upd (upd H e0 (.lst [])) B0 (.lst [.ref e0])) := (Same.new he0).trans (Same.new hB0)
    have nB0 : H B0 = none := (Same.new (o := .lst []) he0).free hB0
    refine ⟨_, rfl, p, CS, dx, _, _, rfl, sA _ _ hp, T.clS, T.sMats, sf_mats _ _, l, rfl, ⟨_, SqL.of (sA _ _ hl)⟩, for_list (K := K) (a := l) (xs := as.map V.ref)
      (fun i σ H' => ∃ (B : Addr) (v2 v3 v4 v5 : Option V), σ = [some (.ref p), some (.ref B), v2, v3, v4, v5] ∧ Same H H' ∧ H B = none ∧ LLst H' B (rowsTo s i))
      ⟨B0, none, none, none, none, rfl, sA, nB0, [e0], upd_same, .cons (by show _ = some _; rw [upd_ne ne0]; exact upd_same) .nil⟩ (fun i σ H' _ ⟨_, _, _, _, _, _, s5, _⟩ => SqL.of (s5 _ _ hl)) ?_ ?_⟩
    · rintro i x σ H' hi ⟨B, v2, v3, v4, v5, rfl, s5, nB, bs, hB, hE⟩
      obtain ⟨a, ha, rfl⟩ := refs_get hi
      have hil : i < as.length := (List.getElem?_eq_some_iff.mp ha).1
      have him : i < s.materials.length := by rw [← hM.len]; exact hil
      obtain ⟨m, hm⟩ : ∃ m, s.materials[i]? = some m := ⟨_, List.getElem?_eq_getElem him⟩
      have mb := hG.mat m (List.mem_of_getElem? hm)
      have hrows := rowsTo_len hG i
      -- longer = []
      refine ⟨Nat.zero_le _, fun L hL => ?_⟩
      have sL : Same H' (upd H' L (.lst [])) := Same.new hL
      have nL : H L = none := s5.free hL
      refine ⟨_, rfl, B, rfl, ⟨_, SqL.of (sL _ _ hB)⟩, for_list (K := K) (a := B) (xs := bs.map V.ref)
        (fun j σ H2 => ∃ (v4 v5 : Option V) (cs : List Addr), σ = [some (.ref p), some (.ref B), some (.ref a), some (.ref L), v4, v5] ∧ Same H' H2 ∧ H2 L = some (.lst (cs.map V.ref)) ∧ Each (fun b g => NatsAt H2 b g ∧ b ≠ L) cs (grow m.most ((rowsTo s i).take j)))
        ⟨_, _, [], rfl, sL, upd_same, .nil⟩ (fun j σ H2 _ ⟨_, _, _, _, s6, _⟩ => SqL.of (s6 _ _ hB)) ?_ ?_⟩
      · rintro j x σ H2 hj ⟨w4, w5, cs, rfl, s6, hL2, hC⟩
        obtain ⟨b, hb, rfl⟩ := refs_get hj
        obtain ⟨g, hg, hgN⟩ := hE.get hb
        have hgj : j < (rowsTo s i).length := (List.getElem?_eq_some_iff.mp hg).1
        have hb2 : H2 b = some (.lst (nv g)) := s6 _ _ hgN
        have hglen : g.length ≤ 4 := Nat.le_trans (rowsTo_each (List.mem_of_getElem? hg)) hG.few
        obtain ⟨dm, hA⟩ := (hM.same (s5.trans s6)).at_ i a m ha hm
        have hclen := hC.len
        rw [grow_len, List.length_take] at hclen
        refine ⟨_, rfl, .inl ⟨rfl, _, SqL.of hL2⟩, _, rfl, a, CM, dm, _, _, rfl, hA, T.clM, T.mMost, mf_most m, _, _, rfl, rfl, _, rfl, by omega, by omega, fun D hD => lc_range (lo := 0) (n := (((m.most : Nat) : Int) + 1).toNat)
          (fun k H3 => ∃ ds : List Addr, Same H2 H3 ∧ H3 D = some (.lst (ds.map V.ref)) ∧ Each (fun b g => NatsAt H3 b g ∧ b ≠ L ∧ b ≠ D) ds ((List.range k).map fun d => g ++ [d])) ⟨[], Same.new hD, upd_same, .nil⟩ ?_ ?_⟩
        · rintro k H3 hk ⟨ds, s7, hD3, hd⟩
          have ez : (0 : Int) + (k : Int) = ((k : Nat) : Int) := by omega
          rw [ez]
          have hdlen := hd.len
          rw [List.length_map, List.length_range] at hdlen
          refine ⟨rfl, yesI ⟨_, rfl, _, rfl, (by show 1 ≤ sizeLine; decide), fun y hy => ?_⟩⟩
          have hby : (upd H3 y (.lst [.int (k : Nat)])) b = some (.lst (nv g)) := (Same.new hy) _ _ (s7 _ _ hb2)
          refine ⟨b, y, _, _, rfl, rfl, hby, upd_same, ?_, fun z hz => ?_⟩
          · rw [List.length_map]
            show _ + 1 ≤ _
            omega
          · have sz3 : Same H3 (upd (upd H3 y (.lst [.int (k : Nat)])) z (.lst (nv g ++ [.int (k : Nat)]))) := (Same.new hy).trans (Same.new hz)
            have nDz : D ≠ z := ne_of_none ((Same.new hy) _ _ hD3) hz
            have nLz : L ≠ z := ne_of_none ((Same.new hy) _ _ (s7 _ _ hL2)) hz
            refine ⟨_, sz3 _ _ hD3, ?_, ds ++ [z], fun c o e => ?_, ?_, ?_⟩
            · rw [List.length_map]
              omega
            · rw [upd_ne (ne_of_none e hD)]
              exact sz3 _ _ (s7 _ _ e)
            · rw [upd_same, List.map_append]
              rfl
            · rw [range_more]
              refine Each.snoc (hd.mono fun c h ⟨h1, h2, h3⟩ => ⟨?_, h2, h3⟩) ⟨?_, nLz.symm, nDz.symm⟩
              · show _ = some _
                rw [upd_ne nDz.symm, upd_same]
                show some (HO.lst (nv g ++ [V.int ((k : Nat) : Int)])) = some (HO.lst (nv (g ++ [k])))
                rw [nv_app]
                rfl
              · show _ = some _
                rw [upd_ne h3]
                exact sz3 _ _ h1
        · rintro H3 ⟨ds, s7, hD3, hd⟩
          have en : (((m.most : Nat) : Int) + 1).toNat = m.most + 1 := by omega
          rw [en] at hd
          have hdlen := hd.len
          rw [List.length_map, List.length_range] at hdlen
          have hL3 := s7 _ _ hL2
          refine ⟨L, D, _, _, rfl, rfl, hL3, hD3, ?_, ?_⟩
          · rw [List.length_map, List.length_map, hclen, hdlen]
            have hj1 : min j (rowsTo s i).length ≤ 1296 := by omega
            have : min j (rowsTo s i).length * (m.most + 1) ≤ 1296 * 6 := Nat.mul_le_mul hj1 (by omega)
            omega
          · refine ⟨_, _, cs ++ ds, rfl, fun c o e => ?_, ?_, ?_⟩
            · rw [upd_ne (ne_of_none e hL)]
              exact s7 _ _ (s6 _ _ e)
            · rw [upd_same, List.map_append]
            · rw [take_more hg, grow_app, grow_one]
              refine Each.append (hC.mono fun c h ⟨h1, h2⟩ => ⟨?_, h2⟩) (hd.mono fun c h ⟨h1, h2, h3⟩ => ⟨?_, h2⟩)
              · show _ = some _
                rw [upd_ne h2]
                exact s7 _ _ h1
              · show _ = some _
                rw [upd_ne h2]
                exact h1
      · rintro σ H2 ⟨w4, w5, cs, rfl, s6, hL2, hC⟩
        refine ⟨_, rfl, L, _, _, _, _, rfl, s5.trans s6, nL, cs, hL2, ?_⟩
        rw [rowsTo_succ hm]
        have e1 : (rowsTo s i).take (bs.map V.ref).length = rowsTo s i := by
          rw [List.length_map, hE.len, List.take_length]
        rw [e1] at hC
        exact hC.mono fun _ _ z => z.1
    · rintro σ H' ⟨B, v2, v3, v4, v5, rfl, s5, nB, bs, hB, hE⟩
      have ec : (as.map V.ref).length = s.count := by rw [List.length_map]; exact hM.len
      rw [ec] at hE
      have hrows := rowsTo_len hG s.count
      refine ⟨_, rfl, B, rfl, ⟨_, SqL.of hB⟩, fun D hD => lc_list (K := K) (a := B) (xs := bs.map V.ref)
        (fun i H2 => ∃ cs : List Addr, Same H' H2 ∧ H2 D = some (.lst (cs.map V.ref)) ∧ Each (NatsAt H') cs (((rowsTo s s.count).take i).filter s.right)) ⟨[], Same.new hD, upd_same, .nil⟩ (fun i H2 _ ⟨_, s6, _⟩ => SqL.of (s6 _ _ hB)) ?_ ?_⟩
      · rintro i x H2 hi ⟨cs, s6, hD2, hC⟩
        obtain ⟨b, hb, rfl⟩ := refs_get hi
        obtain ⟨g, hg, hgN⟩ := hE.get hb
        have hb2 : H2 b = some (.lst (nv g)) := s6 _ _ hgN
        have hgl : g.length = s.count := rowsTo_full (List.mem_of_getElem? hg)
        refine ⟨rfl, _, rfl, p, dx, _, rfl, (s5.trans s6) _ _ hp, sf_no _ _ (by decide +kernel) (by decide +kernel), _, rfl, p, l, b, s, g, rfl, hS.same (s5.trans s6), SqL.of hb2, hgl, fun H3 s7 => ⟨_, rfl, ?_⟩⟩
        have hclen := hC.len
        have hcl : (((rowsTo s s.count).take i).filter s.right).length ≤ 1296 := Nat.le_trans (List.length_filter_le _ _) (by rw [List.length_take]; omega)
        cases c : s.right g with
        | true =>
          refine iteT ⟨_, rfl, _, s7 _ _ hD2, ?_, cs ++ [b], fun c o e => ?_, ?_, ?_⟩
          · rw [List.length_map, hclen]
            omega
          · rw [upd_ne (ne_of_none e hD)]
            exact s7 _ _ (s6 _ _ e)
          · rw [upd_same, List.map_append]
            rfl
          · rw [take_more hg, List.filter_append, List.filter_cons, if_pos c]
            exact hC.snoc hgN
        | false =>
          refine iteF ⟨cs, s6.trans s7, s7 _ _ hD2, ?_⟩
          rw [take_more hg, List.filter_append, List.filter_cons, if_neg (by rw [c]; decide)]
          rw [List.filter_nil, List.append_nil]
          exact hC
      · rintro H2 ⟨cs, s6, hD2, hC⟩
        refine k H2 D (s5.trans s6) (s5.free hD) ⟨cs, hD2, ?_⟩
        rw [formulas_eq]
        have e1 : (rowsTo s s.count).take (bs.map V.ref).length = rowsTo s s.count := by
          rw [List.length_map, hE.len, List.take_length]
        rw [e1] at hC
        exact hC.mono fun _ _ z => z.same s6
end
end Sm
end
section
set_option Elab.async false
set_option linter.all false
set_option maxRecDepth 100000
set_option maxHeartbeats 2000000
namespace Sm
open PySem PySem.Spec L2
open PyProof.Rows hiding St
/-- a mixture none of whose parts is the list at D -/
def MixOff (CX : Addr) (H : Hp) (s : Si81.Shelf) (D x : Addr) (f : List Nat) : Prop := ∃ dx fa oa, H x = some (.ins CX dx (xf fa f.sum oa (s.shortest f))) ∧ NatsAt H fa f ∧ NatsAt H oa (s.order f) ∧ x ≠ D ∧ fa ≠ D ∧ oa ≠ D
theorem MixOff.mix {CX : Addr} {H : Hp} {s : Si81.Shelf} {D x : Addr} {f : List Nat} (h : MixOff CX H s D x f) : MixAt CX H s x f :=
  let ⟨dx, fa, oa, h1, h2, h3, _⟩ := h; ⟨dx, fa, oa, h1, h2, h3⟩
theorem MixOff.same {CX : Addr} {H H' : Hp} {s : Si81.Shelf} {D x : Addr} {f : List Nat} (e : Same H H') (h : MixOff CX H s D x f) : MixOff CX H' s D x f :=
  let ⟨dx, fa, oa, h1, h2, h3, r⟩ := h; ⟨dx, fa, oa, e _ _ h1, e _ _ h2, e _ _ h3, r⟩
theorem MixOff.upd {CX : Addr} {H : Hp} {s : Si81.Shelf} {D x : Addr} {f : List Nat} {o : HO} (h : MixOff CX H s D x f) : MixOff CX (L2.upd H D o) s D x f := by
  obtain ⟨dx, fa, oa, h1, h2, h3, n1, n2, n3⟩ := h
  refine ⟨dx, fa, oa, ?_, ?_, ?_, n1, n2, n3⟩
  · rw [upd_ne n1]; exact h1
  · show _ = some _
    rw [upd_ne n2]; exact h2
  · show _ = some _
    rw [upd_ne n3]; exact h3
theorem fok_of {s : Si81.Shelf} {f : List Nat} (g : Good s) (h : f ∈ s.formulas) : FOk s f :=
  ⟨g, right_len (formulas_right h), right_small g (right_len (formulas_right h)) (formulas_right h)⟩
section
variable {P : Program} {w : World} {K : PySem.W.Frag} {mg : Str → Option Value} {base : Heap} {CM CS CX : Addr}
/-! ### mixtures -/
def spMixtures (CS CM CX : Addr) : Sp := fun vs H Q _ => ∃ (p l : Addr) (s : Si81.Shelf), vs = [.ref p] ∧ ShAt CS CM H p l s ∧ Good s ∧ ∀ (H' : Hp) (q : Addr), Same H H' → H q = none → XLst CX H' s q s.formulas → Q (.ref q) H'
theorem scMixtures : FnScope ["self", "formula"] ["self"] (defScope sMixtures) := ⟨rfl, rfl, rfl, by decide +kernel, rfl, by decide +kernel, by decide +kernel⟩
theorem ok_mixtures {f : Addr} {fd : FuncData} (F : Fun K "mixtures" "Shelf.mixtures" sMixtures f fd) (T : Txt K mg CM CS) (TX : TxtX K mg CX) (FO : Mth P w K mg base CS "formulas" 3 ["self"] (spFormulas CS CM))
    (U : Fn P w K mg base "turns" 3 ["materials", "formula"] (spTurns K CM)) (M : Mak P w K mg base CX 2 ["self", "formula", "led"] (spMixInit CX)) : FnOk P w K mg base CX0 4 f fd ["self"] (spMixtures CS CM CX) := by
  obtain ⟨fO, fdO, GO, mO, bO⟩ := FO
  obtain ⟨fU, fdU, GU, mU, kU, bU⟩ := U
  obtain ⟨fM, fdM, GM, MM, bM⟩ := M
  refine F.ok scMixtures (fun vs H Q E h => ?_) (fun cdv A outer s0 H vs Q E hr h => ?_)
  · obtain ⟨p, l, s, rfl, _⟩ := h
    rfl
  · obtain ⟨p, l, s, rfl, hS, hG, k⟩ := h
    obtain ⟨dx, hp, hL⟩ := id hS
    refine ⟨_, pss_one (ps_ret (pe_lc (own := [("formula", 1)]) (g := gName 1) (tt := tYes) (te := tMake CX (spMixInit CX) [] E0 (tCons (tVar 1) (tCons (tCall (spTurns K CM) [] E0 (tCons (tFld K (tVar 0) "materials") (tCons (tVar 1) tNil))) tNil))) rfl scMixtures.nd
      (pi_list (pe_meth0 (pv 0) T.clS mO GO hr bO .nil pass0)) (blkOk_by (by show blkC ["self", "formula"] (defScope sMixtures) _ _ = true; decide +kernel)) (fun _ _ _ _ _ => pg_name (i := 1) scMixtures.nd rfl (Or.inl rfl)) (fun _ _ _ _ _ => pts_nil)
      (fun _ _ _ _ _ => pe_make MM GM hr rfl TX.mgX bM .nil pass0 (pa_cons (pv 1) (pa_cons (pe_call GU hr rfl mU kU bU .nil pass0 (pa_cons (pe_fld (pv 0) rfl) (pa_cons (pv 1) pa_nil))) pa_nil))))), ?_⟩
    have sz := sizeLine_eq
    have hflen := formulas_len hG
    refine ⟨_, rfl, p, dx, _, rfl, hp, sf_no _ _ (by decide +kernel) (by decide +kernel), p, l, s, rfl, hS, hG, fun H1 q s1 nq ⟨as, hq, hE⟩ => ?_⟩
    refine ⟨q, rfl, ⟨_, SqL.of hq⟩, fun D hD => lc_list (K := K) (a := q) (xs := as.map V.ref)
      (fun i H2 => ∃ cs : List Addr, Same H1 H2 ∧ H2 D = some (.lst (cs.map V.ref)) ∧ Each (MixOff CX H2 s D) cs (s.formulas.take i)) ⟨[], Same.new hD, upd_same, .nil⟩ (fun i H2 _ ⟨_, s2, _⟩ => SqL.of (s2 _ _ hq)) ?_ ?_⟩
    · rintro i x H2 hi ⟨cs, s2, hD2, hC⟩
      obtain ⟨b, hb, rfl⟩ := refs_get hi
      obtain ⟨g, hg, hgN⟩ := hE.get hb
      have hgN0 : H1 b = some (.lst (nv g)) := hgN
      have hb2 : H2 b = some (.lst (nv g)) := s2 _ _ hgN
      have hclen := hC.len
      rw [List.length_take] at hclen
      have s12 := s1.trans s2
      refine ⟨rfl, yesI ⟨_, rfl, _, rfl, p, CS, dx, _, _, rfl, s12 _ _ hp, T.clS, T.sMats, sf_mats _ _, _, rfl, l, b, s, g, rfl, hL.same s12, SqL.of hb2, fok_of hG (List.mem_of_getElem? hg), fun H3 la s3 nla hla => ?_⟩⟩
      intro x dm nx nd nxd
      have nbx : b ≠ x := ne_of_none (s3 _ _ hb2) nx
      have nbd : b ≠ dm := ne_of_none (s3 _ _ hb2) nd
      have nlx : la ≠ x := ne_of_none hla nx
      have nld : la ≠ dm := ne_of_none hla nd
      refine ⟨x, dm, b, la, s, g, rfl, upd_same, ?_, ?_, fun H4 oa hx4 ho4 no4 fr => ⟨rfl, ?_⟩⟩
      · show _ = some _
        rw [upd_ne nbx, upd_ne nbd]
        exact s3 _ _ hb2
      · show _ = some _
        rw [upd_ne nlx, upd_ne nld]
        exact hla
      · have s4 : Same H3 H4 := Same.made nx nd fr
        have hD3 := s3 _ _ hD2
        have nDx : D ≠ x := ne_of_none hD3 nx
        have nDd : D ≠ dm := ne_of_none hD3 nd
        have nbD : b ≠ D := ne_of_none hgN0 hD
        have hD5 : (upd (upd H3 dm (.own x)) x (.ins CX dm [])) D = some (.lst (cs.map V.ref)) := by
          rw [upd_ne nDx, upd_ne nDd]
          exact hD3
        have noD : oa ≠ D := (ne_of_none hD5 no4).symm
        refine ⟨_, s4 _ _ hD3, ?_, cs ++ [x], fun c o e => ?_, ?_, ?_⟩
        · rw [List.length_map]
          omega
        · rw [upd_ne (ne_of_none e hD)]
          exact s4 _ _ (s3 _ _ (s2 _ _ e))
        · rw [upd_same, List.map_append]
          rfl
        · rw [take_more hg]
          refine Each.snoc (hC.mono fun c h z => ((z.same s3).same s4).upd) (MixOff.upd ⟨dm, b, oa, hx4, ?_, ho4, nDx.symm, nbD, noD⟩)
          exact s4 _ _ (s3 _ _ hb2)
    · rintro H2 ⟨cs, s2, hD2, hC⟩
      have e1 : s.formulas.take (as.map V.ref).length = s.formulas := by rw [List.length_map, hE.len, List.take_length]
      rw [e1] at hC
      exact k H2 D (s1.trans s2) (s1.free hD) ⟨cs, hD2, hC.mono fun _ _ z => z.mix⟩
/-! ### mixtures_with -/
def spMixWith (K : PySem.W.Frag) (CS CM CX : Addr) : Sp := fun vs H Q _ => ∃ (p l o : Addr) (s : Si81.Shelf) (od : List Nat), vs = [.ref p, .ref o] ∧ ShAt CS CM H p l s ∧ Good s ∧ SqL K H o (nv od) ∧ ∀ (H' : Hp) (q : Addr), Same H H' → H q = none → XLst CX H' s q (s.ordered od) → Q (.ref q) H'
theorem scMixWith : FnScope ["self", "order", "mixture"] ["self", "order"] (defScope sMixWith) := ⟨rfl, rfl, rfl, by decide +kernel, rfl, by decide +kernel, by decide +kernel⟩
theorem ok_mixWith {f : Addr} {fd : FuncData} (F : Fun K "mixtures_with" "Shelf.mixtures_with" sMixWith f fd) (T : Txt K mg CM CS) (TX : TxtX K mg CX) (MX : Mth P w K mg base CS "mixtures" 4 ["self"] (spMixtures CS CM CX)) :
    FnOk P w K mg base CX0 5 f fd ["self", "order"] (spMixWith K CS CM CX) := by
  obtain ⟨fO, fdO, GO, mO, bO⟩ := MX
  refine F.ok scMixWith (fun vs H Q E h => ?_) (fun cdv A outer s0 H vs Q E hr h => ?_)
  · obtain ⟨p, l, o, s, od, rfl, _⟩ := h
    rfl
  · obtain ⟨p, l, o, s, od, rfl, hS, hG, ho, k⟩ := h
    obtain ⟨dx, hp, hL⟩ := id hS
    have hu := hu_of hr
    refine ⟨_, pss_one (ps_ret (pe_lc (own := [("mixture", 2)]) (g := gName 2) (tt := tTest (tOp (rEqL K) (tFld K (tVar 2) "order") (tVar 1))) (te := tVar 2) rfl scMixWith.nd
      (pi_list (pe_meth0 (pv 0) T.clS mO GO hr bO .nil pass0)) (blkOk_by (by show blkC ["self", "order", "mixture"] (defScope sMixWith) _ _ = true; decide +kernel)) (fun _ _ _ _ _ => pg_name (i := 2) scMixWith.nd rfl (Or.inl rfl))
      (fun _ _ _ _ _ => pts_one (pt_cmpR (op_eqL hu) (pe_fld (pv 2) rfl) (pv 1) (nomark _))) (fun _ _ _ _ _ => pv 2))), ?_⟩
    have sz := sizeLine_eq
    have hflen := formulas_len hG
    refine ⟨_, rfl, p, dx, _, rfl, hp, sf_no _ _ (by decide +kernel) (by decide +kernel), p, l, s, rfl, hS, hG, fun H1 q s1 nq ⟨as, hq, hE⟩ => ?_⟩
    refine ⟨q, rfl, ⟨_, SqL.of hq⟩, fun D hD => lc_list (K := K) (a := q) (xs := as.map V.ref)
      (fun i H2 => ∃ cs : List Addr, Same H1 H2 ∧ H2 D = some (.lst (cs.map V.ref)) ∧ Each (MixAt CX H1 s) cs ((s.formulas.take i).filter fun l => s.order l == od)) ⟨[], Same.new hD, upd_same, .nil⟩ (fun i H2 _ ⟨_, s2, _⟩ => SqL.of (s2 _ _ hq)) ?_ ?_⟩
    · rintro i x H2 hi ⟨cs, s2, hD2, hC⟩
      obtain ⟨b, hb, rfl⟩ := refs_get hi
      obtain ⟨g, hg, hgM⟩ := hE.get hb
      obtain ⟨dm, fa, oa, m1, m2, m3⟩ := hgM.same s2
      have hclen := hC.len
      have hcl : ((s.formulas.take i).filter fun l => s.order l == od).length ≤ 1296 := Nat.le_trans (List.length_filter_le _ _) (by rw [List.length_take]; omega)
      refine ⟨rfl, _, rfl, b, CX, dm, _, _, rfl, m1, TX.cl, TX.nOrder, xf_order _ _ _ _, _, rfl, oa, o, _, _, rfl, rfl, SqL.of m3, (s1.trans s2).seq ho, _, rfl, ?_⟩
      refine ite2 (fun c => ?_) (fun c => ?_)
      · have c' := of_decide_eq_true c
        refine ⟨_, rfl, _, hD2, ?_, cs ++ [b], fun c o e => ?_, ?_, ?_⟩
        · rw [List.length_map]
          omega
        · rw [upd_ne (ne_of_none e hD)]
          exact s2 _ _ e
        · rw [upd_same, List.map_append]
          rfl
        · rw [take_more hg, List.filter_append, List.filter_cons, if_pos (beq_iff_eq.mpr c')]
          exact hC.snoc hgM
      · have c' : ¬ s.order g = od := fun z => c (decide_eq_true z)
        refine ⟨cs, s2, hD2, ?_⟩
        rw [take_more hg, List.filter_append, List.filter_cons, if_neg (fun z => c' (beq_iff_eq.mp z)), List.filter_nil, List.append_nil]
        exact hC
    · rintro H2 ⟨cs, s2, hD2, hC⟩
      have e1 : s.formulas.take (as.map V.ref).length = s.formulas := by rw [List.length_map, hE.len, List.take_length]
      rw [e1] at hC
      exact k H2 D (s1.trans s2) (s1.free hD) ⟨cs, hD2, hC.mono fun _ _ z => z.same s2⟩
end
end Sm
end
section
set_option Elab.async false
set_option linter.all false
set_option maxRecDepth 100000
set_option maxHeartbeats 2000000
namespace Sm
open PySem PySem.Spec L2
open PyProof.Rows hiding St
/-- a refusal, or none -/
def refV (r : Int) : V := if r < 0 then .int r else .non
theorem asked_there {s : Si81.Shelf} {o : List Nat} (h : ∃ i ∈ o, s.count ≤ i) : s.asked o = -1 := by
  obtain ⟨i, h1, h2⟩ := h
  unfold Si81.Shelf.asked
  rw [if_pos]
  rw [List.all_eq_false]
  exact ⟨i, h1, by simpa using h2⟩
theorem asked_once {s : Si81.Shelf} {o : List Nat} (h : ∀ i ∈ o, i < s.count) : s.asked o = if Si81.once o = false then -4 else 0 := by
  unfold Si81.Shelf.asked
  rw [if_neg]
  intro z
  rw [List.all_eq_false] at z
  obtain ⟨i, h1, h2⟩ := z
  exact h2 (decide_eq_true (h i h1))
theorem mem_ints {o : List Nat} {m : Int} (h : m ∈ Si81.ints o) : ∃ i ∈ o, (i : Int) = m := List.mem_map.mp h
theorem ints_mem {o : List Nat} {i : Nat} (h : i ∈ o) : (i : Int) ∈ Si81.ints o := List.mem_map.mpr ⟨i, h, rfl⟩
section
variable {X : Cx} {e d : Expr} {t tk : TA} {p pos kpos : Pos}
/-- max(e, default=d) of ints: one way out -/
def tMaxI (K : PySem.W.Frag) (t tk : TA) : TE := fun σ H Q => t σ H fun vs H1 => tk σ H1 fun zs H2 => ∃ (a : Addr) (ns : List Int) (d : Int), vs = [.ref a] ∧ zs = [.int d] ∧ SqL K H2 a (ns.map V.int) ∧ ∀ m, (ns = [] ∧ m = d) ∨ (m ∈ ns ∧ ∀ z, z ∈ ns → z ≤ m) → Q (.int m) H2
theorem pe_maxI (hc : X.calm = true) (hg : Gl X "max") (hm : X.mg "max" = none) (ha : PA X [e] t) (hk : PK X [⟨some "default", d, kpos⟩] tk)
    (hs : starEach [e] X.env = [(false, eval e X.env)] := by rfl) :
    PE X (.Call (.Name "max" p) [e] [⟨some "default", d, kpos⟩] pos) (tMaxI X.K t tk) := by
  intro pins s σ H Q I h
  refine wpAny_Call_Name_kw (ld_blt I hg hm (show bootBuiltins "max" = some (.builtin "max") by decide +kernel) (PyProof.Rows.callWith_kw (thn (ha pos pins s σ H _ I h) fun us s1 ⟨vs, H1, I1, r1, q1⟩ => ?_) (by rw [hs]; rfl) (by rw [hs]; rfl)))
  refine thn (hk pos pins s1 σ H1 _ I1 q1) fun ws s2 ⟨zs, H2, I2, r2, a, ns, y, ev, ez, hq, k1⟩ => ?_
  subst ev ez
  obtain ⟨its, rv, hl, _⟩ := I2.list hq
  rw [Vals.ref1 r1]
  cases r2 with
  | cons ry rn =>
    cases rn
    exact mxd_raw (I2.ok.hd hc) hl.isList rv.ints (fun hz h' tk' kk => ⟨.int y, H2, I2.kept kk, ry, k1 y (.inl ⟨hz, rfl⟩)⟩) fun h' tk' m t' kk h1 h2 => ⟨.int m, H2, I2.kept kk, ⟨_, rfl⟩, k1 m (.inr ⟨h1, h2⟩)⟩
end
section
variable {P : Program} {w : World} {K : PySem.W.Frag} {mg : Str → Option Value} {base : Heap} {CM CS CX : Addr}
/-! ### order_refusal -/
def spRefusal (K : PySem.W.Frag) : Sp := fun vs H Q _ => ∃ (o : Addr) (s : Si81.Shelf) (od : List Nat), vs = [.ref o, .int (s.count : Nat)] ∧ SqL K H o (nv od) ∧ od.length ≤ 6 ∧ ∀ H' : Hp, Same H H' → Q (refV (s.asked od)) H'
theorem scRefusal : FnScope ["order", "count", "number"] ["order", "count"] (defScope sRefusal) := ⟨rfl, rfl, rfl, by decide +kernel, rfl, by decide +kernel, by decide +kernel⟩
theorem ok_refusal {f : Addr} {fd : FuncData} (F : Fun K "order_refusal" "order_refusal" sRefusal f fd) (T : Txt K mg CM CS) : FnOk P w K mg base CX0 1 f fd ["order", "count"] (spRefusal K) := by
  refine F.ok scRefusal (fun vs H Q E h => ?_) (fun cdv A outer s0 H vs Q E hr h => ?_)
  · obtain ⟨o, s, od, rfl, _⟩ := h
    rfl
  · obtain ⟨o, s, od, rfl, ho, h6, k⟩ := h
    refine ⟨_, pss_cons (ps_if (pt_cmpR op_ge (pe_maxI rfl rfl T.bMax (pa_cons (pv 0) pa_nil) (pk_cons (pe_un un_neg pe_int) pk_nil)) (pv 1) (nomark _)) (pss_one (ps_ret (pe_gint T.cNotThere rfl))) pss_nil)
      (pss_cons (ps_if (pt_val (pe_callB (cr_any rfl) rfl T.bAny (by decide +kernel) (pa_cons
        (pe_lc (own := [("number", 2)]) (g := gName 2) (tt := tYes) (te := tOp (rI0 fun i j => .bl (decide (j < i))) (tBM K "list" (rCount K) (tVar 0) (tCons (tVar 2) tNil)) (tC (.int 1))) rfl scRefusal.nd (pi_list (pv 0))
          (blkOk_by (by show blkC ["order", "count", "number"] (defScope sRefusal) _ _ = true; decide +kernel)) (fun _ _ _ _ _ => pg_name (i := 2) scRefusal.nd rfl (Or.inl rfl)) (fun _ _ _ _ _ => pts_nil)
          (fun _ _ _ _ _ => pe_cmpR op_gt (pe_bm PySem.F.plainAttrs_list PySem.F.slot_list_count PySem.F.type_list_count mt_count (pv 0) (pa_cons (pv 2) pa_nil)) pe_int (nomark _))) pa_nil)))
        (pss_one (ps_ret (pe_gint T.cTwice rfl))) pss_nil)
      (pss_one (ps_ret pe_non))), ?_⟩
    have hoi : SqL K H o (iv (Si81.ints od)) := by rw [← nv_iv]; exact ho
    have sz := sizeLine_eq
    refine ⟨_, rfl, _, rfl, o, Si81.ints od, -1, rfl, rfl, hoi, fun m hm => ⟨_, rfl, _, _, rfl, rfl, _, rfl, ite2 (fun c => ?_) (fun c => ?_)⟩⟩
    · have c' : ((s.count : Nat) : Int) ≤ m := of_decide_eq_true c
      rcases hm with ⟨_, e⟩ | ⟨h1, _⟩
      · omega
      · obtain ⟨i, i1, i2⟩ := mem_ints h1
        have e : s.asked od = -1 := asked_there ⟨i, i1, by omega⟩
        have k1 := k H Same.rfl'
        rw [e] at k1
        exact k1
    · have c' : ¬ ((s.count : Nat) : Int) ≤ m := fun z => c (decide_eq_true z)
      have hall : ∀ i ∈ od, i < s.count := by
        intro i hi
        rcases hm with ⟨e, _⟩ | ⟨_, h2⟩
        · have := ints_mem hi
          rw [e] at this
          cases this
        · have := h2 _ (ints_mem hi)
          omega
      refine ⟨_, rfl, o, rfl, ⟨_, ho⟩, fun D hD => lc_list (K := K) (a := o) (xs := nv od) (fun i H2 => Same H H2 ∧ H2 D = some (.lst (((od.take i).map fun n => decide (1 < od.count n)).map V.bl))) ⟨Same.new hD, upd_same⟩
        (fun i H2 _ ⟨s2, _⟩ => s2.seq ho) ?_ ?_⟩
      · rintro i x H2 hi ⟨s2, hD2⟩
        obtain ⟨n, hn, rfl⟩ : ∃ n, od[i]? = some n ∧ x = V.int (n : Int) := by
          unfold nv at hi
          rw [List.getElem?_map] at hi
          cases e : od[i]? with
          | none => rw [e] at hi; cases hi
          | some a => rw [e] at hi; exact ⟨a, rfl, (Option.some.inj hi).symm⟩
        refine ⟨rfl, yesI ⟨_, rfl, .inl ⟨rfl, _, s2.seq ho⟩, _, rfl, o, Si81.ints od, (n : Int), rfl, rfl, s2.seq hoi, _, _, rfl, rfl, _, hD2, ?_, fun b u e => ?_, ?_⟩⟩
        · rw [List.length_map, List.length_map, List.length_take]
          omega
        · rw [upd_ne (ne_of_none e hD)]
          exact s2 _ _ e
        · rw [upd_same, take_more hn, List.map_append, List.map_append, count_ints]
          have : decide ((1 : Int) < ((od.count n : Nat) : Int)) = decide (1 < od.count n) := decide_eq_decide.mpr (by omega)
          show some (HO.lst (_ ++ [V.bl (decide ((1 : Int) < ((od.count n : Nat) : Int)))])) = _
          rw [this]
          rfl
      · rintro H2 ⟨s2, hD2⟩
        have el : od.take (nv od).length = od := by
          unfold nv
          rw [List.length_map, List.take_length]
        rw [el] at hD2
        refine ⟨D, _, rfl, SqL.of hD2, _, rfl, ?_⟩
        have ea : ((od.map fun n => decide (1 < od.count n)).any id) = !Si81.once od := by
          rw [← once_any, List.any_map]
          rfl
        rw [ea]
        have k1 := k H2 s2
        rw [asked_once hall] at k1
        cases c2 : Si81.once od with
        | false =>
          rw [c2] at k1
          exact iteT k1
        | true =>
          rw [c2] at k1
          exact iteF k1
/-! ### of_fewest_drops, most_even -/
def spOfFewest (CX : Addr) : Sp := fun vs H Q _ => ∃ (q : Addr) (s : Si81.Shelf) (fs : List (List Nat)), vs = [.ref q] ∧ XLst CX H s q fs ∧ fs ≠ [] ∧ fs.length ≤ 1296 ∧ ∀ (H' : Hp) (r : Addr) (d : Nat), Same H H' → H r = none → (∃ f ∈ fs, f.sum = d) → (∀ f ∈ fs, d ≤ f.sum) → XLst CX H' s r (sumOf d fs) → Q (.ref r) H'
theorem scOfFewest : FnScope ["mixtures", "fewest", "mixture"] ["mixtures"] (defScope sOfFewest) := ⟨rfl, rfl, rfl, by decide +kernel, rfl, by decide +kernel, by decide +kernel⟩
theorem ok_ofFewest {f : Addr} {fd : FuncData} (F : Fun K "of_fewest_drops" "of_fewest_drops" sOfFewest f fd) (T : Txt K mg CM CS) (TX : TxtX K mg CX) : FnOk P w K mg base CX0 1 f fd ["mixtures"] (spOfFewest CX) := by
  refine F.ok scOfFewest (fun vs H Q E h => ?_) (fun cdv A outer s0 H vs Q E hr h => ?_)
  · obtain ⟨q, s, fs, rfl, _⟩ := h
    rfl
  · obtain ⟨q, s, fs, rfl, ⟨as, hq, hE⟩, hne, hfl, k⟩ := h
    refine ⟨_, pss_cons (ps_set (i := 1) scOfFewest.nd rfl (Or.inr rfl) (pe_callB (cr_min rfl) rfl T.bMin (by decide +kernel) (pa_cons
        (pe_lc (own := [("mixture", 2)]) (g := gName 2) (tt := tYes) (te := tFld K (tVar 2) "drops") rfl scOfFewest.nd (pi_list (pv 0)) (blkOk_by (by show blkC ["mixtures", "fewest", "mixture"] (defScope sOfFewest) _ _ = true; decide +kernel))
          (fun _ _ _ _ _ => pg_name (i := 2) scOfFewest.nd rfl (Or.inl rfl)) (fun _ _ _ _ _ => pts_nil) (fun _ _ _ _ _ => pe_fld (pv 2) rfl)) pa_nil)))
      (pss_one (ps_ret (pe_lc (own := [("mixture", 2)]) (g := gName 2) (tt := tTest (tOp rEq (tFld K (tVar 2) "drops") (tVar 1))) (te := tVar 2) rfl scOfFewest.nd (pi_list (pv 0)) (blkOk_by (by show blkC ["mixtures", "fewest", "mixture"] (defScope sOfFewest) _ _ = true; decide +kernel))
          (fun _ _ _ _ _ => pg_name (i := 2) scOfFewest.nd rfl (Or.inl rfl)) (fun _ _ _ _ _ => pts_one (pt_cmpR op_eq (pe_fld (pv 2) rfl) (pv 1) (nomark _))) (fun _ _ _ _ _ => pv 2)))), ?_⟩
    have sz := sizeLine_eq
    refine ⟨_, rfl, q, rfl, ⟨_, SqL.of hq⟩, fun D hD => lc_list (K := K) (a := q) (xs := as.map V.ref) (fun i H2 => Same H H2 ∧ H2 D = some (.lst (nv ((fs.take i).map List.sum)))) ⟨Same.new hD, upd_same⟩ (fun i H2 _ ⟨s2, _⟩ => SqL.of (s2 _ _ hq)) ?_ ?_⟩
    · rintro i x H2 hi ⟨s2, hD2⟩
      obtain ⟨b, hb, rfl⟩ := refs_get hi
      obtain ⟨g, hg, hgM⟩ := hE.get hb
      obtain ⟨dm, fa, oa, m1, m2, m3⟩ := hgM.same s2
      refine ⟨rfl, yesI ⟨_, rfl, b, CX, dm, _, _, rfl, m1, TX.cl, TX.nDrops, xf_drops _ _ _ _, _, hD2, ?_, fun c o e => ?_, ?_⟩⟩
      · rw [List.length_map, List.length_map, List.length_take]
        omega
      · rw [upd_ne (ne_of_none e hD)]
        exact s2 _ _ e
      · rw [upd_same, take_more hg, List.map_append, nv_app]
        rfl
    · rintro H2 ⟨s2, hD2⟩
      have el : fs.take (as.map V.ref).length = fs := by rw [List.length_map, hE.len, List.take_length]
      rw [el, nv_iv] at hD2
      refine ⟨D, _, rfl, SqL.of hD2, ?_, fun m h1 h2 => ?_⟩
      · unfold Si81.ints
        rw [List.length_map, List.length_map]
        exact List.length_pos_iff.mpr hne
      · obtain ⟨d, hd, rfl⟩ := mem_ints h1
        obtain ⟨f0, hf0, ed⟩ := List.mem_map.mp hd
        have low : ∀ f ∈ fs, d ≤ f.sum := fun f hf => by
          have := h2 _ (ints_mem (List.mem_map.mpr ⟨f, hf, rfl⟩))
          omega
        refine ⟨_, rfl, q, rfl, ⟨_, SqL.of (s2 _ _ hq)⟩, fun D2 hD3 => lc_list (K := K) (a := q) (xs := as.map V.ref)
          (fun i H3 => ∃ cs : List Addr, Same H2 H3 ∧ H3 D2 = some (.lst (cs.map V.ref)) ∧ Each (MixAt CX H s) cs (sumOf d (fs.take i))) ⟨[], Same.new hD3, upd_same, .nil⟩ (fun i H3 _ ⟨_, s3, _⟩ => SqL.of (s3 _ _ (s2 _ _ hq))) ?_ ?_⟩
        · rintro i x H3 hi ⟨cs, s3, hD4, hC⟩
          obtain ⟨b, hb, rfl⟩ := refs_get hi
          obtain ⟨g, hg, hgM⟩ := hE.get hb
          obtain ⟨dm, fa, oa, m1, m2, m3⟩ := hgM.same (s2.trans s3)
          have hclen := hC.len
          have hcl : (sumOf d (fs.take i)).length ≤ 1296 := Nat.le_trans (List.length_filter_le _ _) (by rw [List.length_take]; omega)
          refine ⟨rfl, _, rfl, b, CX, dm, _, _, rfl, m1, TX.cl, TX.nDrops, xf_drops _ _ _ _, _, rfl, rfl, _, rfl, ?_⟩
          refine ite2 (fun c => ?_) (fun c => ?_)
          · have c' : g.sum = d := by
              have := V.int.inj (of_decide_eq_true c)
              omega
            refine ⟨_, rfl, _, hD4, ?_, cs ++ [b], fun c o e => ?_, ?_, ?_⟩
            · rw [List.length_map]
              omega
            · rw [upd_ne (ne_of_none e hD3)]
              exact s3 _ _ e
            · rw [upd_same, List.map_append]
              rfl
            · unfold sumOf
              rw [take_more hg, List.filter_append, List.filter_cons, if_pos (beq_iff_eq.mpr c')]
              exact hC.snoc hgM
          · have c' : ¬ g.sum = d := fun z => c (decide_eq_true (by rw [z]))
            refine ⟨cs, s3, hD4, ?_⟩
            unfold sumOf
            rw [take_more hg, List.filter_append, List.filter_cons, if_neg (fun z => c' (beq_iff_eq.mp z)), List.filter_nil, List.append_nil]
            exact hC
        · rintro H3 ⟨cs, s3, hD4, hC⟩
          rw [el] at hC
          exact k H3 D2 d (s2.trans s3) (s2.free hD3) ⟨f0, hf0, ed⟩ low ⟨cs, hD4, hC.mono fun _ _ z => z.same (s2.trans s3)⟩
def spMostEven (CX : Addr) : Sp := fun vs H Q _ => ∃ (q : Addr) (s : Si81.Shelf) (fs : List (List Nat)), vs = [.ref q] ∧ XLst CX H s q fs ∧ fs ≠ [] ∧ fs.length ≤ 1296 ∧ ∀ (H' : Hp) (r : Addr) (d : Nat), Same H H' → H r = none → (∃ f ∈ fs, s.shortest f = d) → (∀ f ∈ fs, s.shortest f ≤ d) → XLst CX H' s r (evenOf s d fs) → Q (.ref r) H'
theorem scMostEven : FnScope ["mixtures", "evenness", "mixture"] ["mixtures"] (defScope sMostEven) := ⟨rfl, rfl, rfl, by decide +kernel, rfl, by decide +kernel, by decide +kernel⟩
theorem ok_mostEven {f : Addr} {fd : FuncData} (F : Fun K "most_even" "most_even" sMostEven f fd) (T : Txt K mg CM CS) (TX : TxtX K mg CX) : FnOk P w K mg base CX0 1 f fd ["mixtures"] (spMostEven CX) := by
  refine F.ok scMostEven (fun vs H Q E h => ?_) (fun cdv A outer s0 H vs Q E hr h => ?_)
  · obtain ⟨q, s, fs, rfl, _⟩ := h
    rfl
  · obtain ⟨q, s, fs, rfl, ⟨as, hq, hE⟩, hne, hfl, k⟩ := h
    refine ⟨_, pss_cons (ps_set (i := 1) scMostEven.nd rfl (Or.inr rfl) (pe_callB (cr_max rfl) rfl T.bMax (by decide +kernel) (pa_cons
        (pe_lc (own := [("mixture", 2)]) (g := gName 2) (tt := tYes) (te := tFld K (tVar 2) "evenness") rfl scMostEven.nd (pi_list (pv 0)) (blkOk_by (by show blkC ["mixtures", "evenness", "mixture"] (defScope sMostEven) _ _ = true; decide +kernel))
          (fun _ _ _ _ _ => pg_name (i := 2) scMostEven.nd rfl (Or.inl rfl)) (fun _ _ _ _ _ => pts_nil) (fun _ _ _ _ _ => pe_fld (pv 2) rfl)) pa_nil)))
      (pss_one (ps_ret (pe_lc (own := [("mixture", 2)]) (g := gName 2) (tt := tTest (tOp rEq (tFld K (tVar 2) "evenness") (tVar 1))) (te := tVar 2) rfl scMostEven.nd (pi_list (pv 0)) (blkOk_by (by show blkC ["mixtures", "evenness", "mixture"] (defScope sMostEven) _ _ = true; decide +kernel))
          (fun _ _ _ _ _ => pg_name (i := 2) scMostEven.nd rfl (Or.inl rfl)) (fun _ _ _ _ _ => pts_one (pt_cmpR op_eq (pe_fld (pv 2) rfl) (pv 1) (nomark _))) (fun _ _ _ _ _ => pv 2)))), ?_⟩
    have sz := sizeLine_eq
    refine ⟨_, rfl, q, rfl, ⟨_, SqL.of hq⟩, fun D hD => lc_list (K := K) (a := q) (xs := as.map V.ref) (fun i H2 => Same H H2 ∧ H2 D = some (.lst (nv ((fs.take i).map s.shortest)))) ⟨Same.new hD, upd_same⟩ (fun i H2 _ ⟨s2, _⟩ => SqL.of (s2 _ _ hq)) ?_ ?_⟩
    · rintro i x H2 hi ⟨s2, hD2⟩
      obtain ⟨b, hb, rfl⟩ := refs_get hi
      obtain ⟨g, hg, hgM⟩ := hE.get hb
      obtain ⟨dm, fa, oa, m1, m2, m3⟩ := hgM.same s2
      refine ⟨rfl, yesI ⟨_, rfl, b, CX, dm, _, _, rfl, m1, TX.cl, TX.nEven, xf_even _ _ _ _, _, hD2, ?_, fun c o e => ?_, ?_⟩⟩
      · rw [List.length_map, List.length_map, List.length_take]
        omega
      · rw [upd_ne (ne_of_none e hD)]
        exact s2 _ _ e
      · rw [upd_same, take_more hg, List.map_append, nv_app]
        rfl
    · rintro H2 ⟨s2, hD2⟩
      have el : fs.take (as.map V.ref).length = fs := by rw [List.length_map, hE.len, List.take_length]
      rw [el, nv_iv] at hD2
      refine ⟨D, _, rfl, SqL.of hD2, ?_, fun m h1 h2 => ?_⟩
      · unfold Si81.ints
        rw [List.length_map, List.length_map]
        exact List.length_pos_iff.mpr hne
      · obtain ⟨d, hd, rfl⟩ := mem_ints h1
        obtain ⟨f0, hf0, ed⟩ := List.mem_map.mp hd
        have up : ∀ f ∈ fs, s.shortest f ≤ d := fun f hf => by
          have := h2 _ (ints_mem (List.mem_map.mpr ⟨f, hf, rfl⟩))
          omega
        refine ⟨_, rfl, q, rfl, ⟨_, SqL.of (s2 _ _ hq)⟩, fun D2 hD3 => lc_list (K := K) (a := q) (xs := as.map V.ref)
          (fun i H3 => ∃ cs : List Addr, Same H2 H3 ∧ H3 D2 = some (.lst (cs.map V.ref)) ∧ Each (MixAt CX H s) cs (evenOf s d (fs.take i))) ⟨[], Same.new hD3, upd_same, .nil⟩ (fun i H3 _ ⟨_, s3, _⟩ => SqL.of (s3 _ _ (s2 _ _ hq))) ?_ ?_⟩
        · rintro i x H3 hi ⟨cs, s3, hD4, hC⟩
          obtain ⟨b, hb, rfl⟩ := refs_get hi
          obtain ⟨g, hg, hgM⟩ := hE.get hb
          obtain ⟨dm, fa, oa, m1, m2, m3⟩ := hgM.same (s2.trans s3)
          have hclen := hC.len
          have hcl : (evenOf s d (fs.take i)).length ≤ 1296 := Nat.le_trans (List.length_filter_le _ _) (by rw [List.length_take]; omega)
          refine ⟨rfl, _, rfl, b, CX, dm, _, _, rfl, m1, TX.cl, TX.nEven, xf_even _ _ _ _, _, rfl, rfl, _, rfl, ?_⟩
          refine ite2 (fun c => ?_) (fun c => ?_)
          · have c' : s.shortest g = d := by
              have := V.int.inj (of_decide_eq_true c)
              omega
            refine ⟨_, rfl, _, hD4, ?_, cs ++ [b], fun c o e => ?_, ?_, ?_⟩
            · rw [List.length_map]
              omega
            · rw [upd_ne (ne_of_none e hD3)]
              exact s3 _ _ e
            · rw [upd_same, List.map_append]
              rfl
            · unfold evenOf
              rw [take_more hg, List.filter_append, List.filter_cons, if_pos (beq_iff_eq.mpr c')]
              exact hC.snoc hgM
          · have c' : ¬ s.shortest g = d := fun z => c (decide_eq_true (by rw [z]))
            refine ⟨cs, s3, hD4, ?_⟩
            unfold evenOf
            rw [take_more hg, List.filter_append, List.filter_cons, if_neg (fun z => c' (beq_iff_eq.mp z)), List.filter_nil, List.append_nil]
            exact hC
        · rintro H3 ⟨cs, s3, hD4, hC⟩
          rw [el] at hC
          exact k H3 D2 d (s2.trans s3) (s2.free hD3) ⟨f0, hf0, ed⟩ up ⟨cs, hD4, hC.mono fun _ _ z => z.same (s2.trans s3)⟩
end
end Sm
end
section
set_option Elab.async false
set_option linter.all false
set_option maxRecDepth 100000
set_option maxHeartbeats 2000000
namespace Sm
open PySem PySem.Spec L2
open PyProof.Rows hiding St
theorem atI_head {α : Type} (x : α) (xs : List α) : atI (x :: xs) 0 = some x := atI_nat (xs := x :: xs) (j := 0) rfl
theorem order_len {s : Si81.Shelf} (g : Good s) (f : List Nat) : (s.order f).length ≤ 24 := by
  unfold Si81.Shelf.order
  rw [List.length_map]
  have h1 : (s.course f).length ≤ (leadersTo s f (s.over f)).length := runs_len _
  have h2 := leadersTo_len s f (s.over f)
  have h3 : s.over f ≤ 24 := over_le g
  omega
section
variable {P : Program} {w : World} {K : PySem.W.Frag} {mg : Str → Option Value} {base : Heap} {CM CS CX : Addr}
/-! ### told_fewest -/
def spToldF (CX : Addr) : Sp := fun vs H Q _ => ∃ (q : Addr) (s : Si81.Shelf) (fs : List (List Nat)) (x : Si81.Best), vs = [.ref q] ∧ XLst CX H s q fs ∧ BestF s fs x ∧ fs.length ≤ 1296 ∧ x.row.length ≤ 4 ∧
  ∀ (H' : Hp) (r : Addr), Same H H' → H r = none → NatsAt H' r ([x.drops, x.shortest, x.many] ++ x.row) → Q (.ref r) H'
theorem scToldF : FnScope ["mixtures", "good"] ["mixtures"] (defScope sToldFewest) := ⟨rfl, rfl, rfl, by decide +kernel, rfl, by decide +kernel, by decide +kernel⟩
theorem ok_toldF {f : Addr} {fd : FuncData} (F : Fun K "told_fewest" "told_fewest" sToldFewest f fd) (T : Txt K mg CM CS) (TX : TxtX K mg CX) (W : Fn P w K mg base "of_fewest_drops" 1 ["mixtures"] (spOfFewest CX)) :
    FnOk P w K mg base CX0 2 f fd ["mixtures"] (spToldF CX) := by
  obtain ⟨fW, fdW, GW, mW, kW, bW⟩ := W
  refine F.ok scToldF (fun vs H Q E h => ?_) (fun cdv A outer s0 H vs Q E hr h => ?_)
  · obtain ⟨q, s, fs, x, rfl, _⟩ := h
    rfl
  · obtain ⟨q, s, fs, x, rfl, hX, hB, hfl, h4, k⟩ := h
    refine ⟨_, pss_cons (ps_set (i := 1) scToldF.nd rfl (Or.inl rfl) (pe_call GW hr rfl mW kW bW .nil pass0 (pa_cons (pv 0) pa_nil)))
      (pss_one (ps_ret (pe_op op_cat (pe_lst (pa_cons (pe_fld (pe_ix ix_list (pv 1) pe_int (fun _ _ => rfl)) rfl) (pa_cons (pe_fld (pe_ix ix_list (pv 1) pe_int (fun _ _ => rfl)) rfl) (pa_cons (pe_callB call_len_seq (by rfl) T.bLen PySem.boot_len (pa_cons (pv 1) pa_nil)) pa_nil))))
        (pe_fld (pe_ix ix_list (pv 1) pe_int (fun _ _ => rfl)) rfl)))), ?_⟩
    obtain ⟨t, ht, hm⟩ := hB.fil
    have hrow : x.row ∈ fs := by
      have : x.row ∈ fs.filter fun l => l.sum == x.drops := by rw [ht]; exact .head _
      exact (List.mem_filter.mp this).1
    refine ⟨_, rfl, q, s, fs, rfl, hX, List.ne_nil_of_mem hrow, hfl, fun H1 g d s1 ng hd low ⟨as, hg, hE⟩ => ?_⟩
    have ed : d = x.drops := by
      obtain ⟨f0, hf0, e0⟩ := hd
      have h1 := hB.low f0 hf0
      have h2 := low x.row hrow
      have h3 := hB.dr
      omega
    subst ed
    have ht' : sumOf x.drops fs = x.row :: t := ht
    rw [ht'] at hE
    cases hE with
    | @cons a y as' ys' hx hrest =>
      obtain ⟨dm, fa, oa, m1, m2, m3⟩ := hx
      have elen : ((a :: as').map V.ref).length = x.many := by rw [List.length_map, List.length_cons, hrest.len, hm]
      refine ⟨_, rfl, g, _, _, _, rfl, rfl, SqL.of hg, atI_head _ _, a, CX, dm, _, _, rfl, m1, TX.cl, TX.nDrops, xf_drops _ _ _ _,
        _, rfl, g, _, _, _, rfl, rfl, SqL.of hg, atI_head _ _, a, CX, dm, _, _, rfl, m1, TX.cl, TX.nEven, xf_even _ _ _ _, _, rfl, g, _, rfl, .inl (SqL.of hg), (by show 3 ≤ sizeLine; decide), fun b hb => ?_⟩
      have sb : ∀ o, Same H1 (upd H1 b o) := fun o => Same.new hb
      refine ⟨_, rfl, g, _, _, _, rfl, rfl, SqL.of (sb _ _ _ hg), atI_head _ _, a, CX, dm, _, _, rfl, sb _ _ _ m1, TX.cl, TX.nForm, xf_formula _ _ _ _, b, fa, _, _, rfl, rfl, upd_same, sb _ _ _ m2, ?_, fun z hz => ?_⟩
      · show 3 + (nvL x.row).length ≤ _
        rw [List.length_map, sizeLine_eq]
        omega
      · refine k _ z ((s1.trans (sb _)).trans (Same.new hz)) (s1.free ((sb _).free hz)) ?_
        show _ = some _
        rw [upd_same, elen, ← hB.sh, ← hB.dr]
        rfl
/-! ### told_even -/
def spToldE (CX : Addr) : Sp := fun vs H Q _ => ∃ (q : Addr) (s : Si81.Shelf) (fs : List (List Nat)) (x : Si81.Best), vs = [.ref q] ∧ XLst CX H s q fs ∧ BestE s fs x ∧ fs.length ≤ 1296 ∧ x.row.length ≤ 4 ∧
  ∀ (H' : Hp) (r : Addr), Same H H' → H r = none → NatsAt H' r ([x.shortest, x.drops, x.many] ++ x.row) → Q (.ref r) H'
theorem scToldE : FnScope ["mixtures", "good"] ["mixtures"] (defScope sToldEven) := ⟨rfl, rfl, rfl, by decide +kernel, rfl, by decide +kernel, by decide +kernel⟩
theorem ok_toldE {f : Addr} {fd : FuncData} (F : Fun K "told_even" "told_even" sToldEven f fd) (T : Txt K mg CM CS) (TX : TxtX K mg CX) (W : Fn P w K mg base "of_fewest_drops" 1 ["mixtures"] (spOfFewest CX)) (V1 : Fn P w K mg base "most_even" 1 ["mixtures"] (spMostEven CX)) :
    FnOk P w K mg base CX0 2 f fd ["mixtures"] (spToldE CX) := by
  obtain ⟨fW, fdW, GW, mW, kW, bW⟩ := W
  obtain ⟨fV, fdV, GV, mV, kV, bV⟩ := V1
  refine F.ok scToldE (fun vs H Q E h => ?_) (fun cdv A outer s0 H vs Q E hr h => ?_)
  · obtain ⟨q, s, fs, x, rfl, _⟩ := h
    rfl
  · obtain ⟨q, s, fs, x, rfl, hX, hB, hfl, h4, k⟩ := h
    refine ⟨_, pss_cons (ps_set (i := 1) scToldE.nd rfl (Or.inl rfl) (pe_call GW hr rfl mW kW bW .nil pass0 (pa_cons (pe_call GV hr rfl mV kV bV .nil pass0 (pa_cons (pv 0) pa_nil)) pa_nil)))
      (pss_one (ps_ret (pe_op op_cat (pe_lst (pa_cons (pe_fld (pe_ix ix_list (pv 1) pe_int (fun _ _ => rfl)) rfl) (pa_cons (pe_fld (pe_ix ix_list (pv 1) pe_int (fun _ _ => rfl)) rfl) (pa_cons (pe_callB call_len_seq (by rfl) T.bLen PySem.boot_len (pa_cons (pv 1) pa_nil)) pa_nil))))
        (pe_fld (pe_ix ix_list (pv 1) pe_int (fun _ _ => rfl)) rfl)))), ?_⟩
    obtain ⟨t, ht, hm⟩ := hB.fil
    have hrow1 : x.row ∈ evenOf s x.shortest fs := by
      have : x.row ∈ sumOf x.drops (evenOf s x.shortest fs) := by rw [ht]; exact .head _
      exact (List.mem_filter.mp this).1
    have hrow : x.row ∈ fs := (List.mem_filter.mp hrow1).1
    refine ⟨_, rfl, q, s, fs, rfl, hX, List.ne_nil_of_mem hrow, hfl, fun H0 g0 e s0' ng0 he up hX0 => ?_⟩
    have ee : e = x.shortest := by
      obtain ⟨f0, hf0, e0⟩ := he
      have h1 := hB.up f0 hf0
      have h2 := up x.row hrow
      have h3 := hB.sh
      omega
    subst ee
    refine ⟨g0, s, _, rfl, hX0, List.ne_nil_of_mem hrow1, Nat.le_trans (List.length_filter_le _ _) hfl, fun H1 g d s1' ng hd low ⟨as, hg, hE⟩ => ?_⟩
    have s1 := s0'.trans s1'
    have ed : d = x.drops := by
      obtain ⟨f0, hf0, e0⟩ := hd
      obtain ⟨hf1, hf2⟩ := List.mem_filter.mp hf0
      have h1 := hB.low f0 hf1 (beq_iff_eq.mp hf2)
      have h2 := low x.row hrow1
      have h3 := hB.dr
      omega
    subst ed
    rw [ht] at hE
    cases hE with
    | @cons a y as' ys' hx hrest =>
      obtain ⟨dm, fa, oa, m1, m2, m3⟩ := hx
      have elen : ((a :: as').map V.ref).length = x.many := by rw [List.length_map, List.length_cons, hrest.len, hm]
      refine ⟨_, rfl, g, _, _, _, rfl, rfl, SqL.of hg, atI_head _ _, a, CX, dm, _, _, rfl, m1, TX.cl, TX.nEven, xf_even _ _ _ _,
        _, rfl, g, _, _, _, rfl, rfl, SqL.of hg, atI_head _ _, a, CX, dm, _, _, rfl, m1, TX.cl, TX.nDrops, xf_drops _ _ _ _, _, rfl, g, _, rfl, .inl (SqL.of hg), (by show 3 ≤ sizeLine; decide), fun b hb => ?_⟩
      have sb : ∀ o, Same H1 (upd H1 b o) := fun o => Same.new hb
      refine ⟨_, rfl, g, _, _, _, rfl, rfl, SqL.of (sb _ _ _ hg), atI_head _ _, a, CX, dm, _, _, rfl, sb _ _ _ m1, TX.cl, TX.nForm, xf_formula _ _ _ _, b, fa, _, _, rfl, rfl, upd_same, sb _ _ _ m2, ?_, fun z hz => ?_⟩
      · show 3 + (nvL x.row).length ≤ _
        rw [List.length_map, sizeLine_eq]
        omega
      · refine k _ z ((s1.trans (sb _)).trans (Same.new hz)) (s1.free ((sb _).free hz)) ?_
        show _ = some _
        rw [upd_same, elen, ← hB.sh, ← hB.dr]
        rfl
/-! ### told_orders -/
def spToldO (CX : Addr) : Sp := fun vs H Q _ => ∃ (q : Addr) (s : Si81.Shelf), vs = [.ref q] ∧ Good s ∧ LLst H q (s.formulas.map s.order) ∧
  ∀ (H' : Hp) (r : Addr), Same H H' → H r = none → NatsAt H' r (s.orders.length :: s.orders.flatMap fun o => o.length :: o) → Q (.ref r) H'
theorem scToldO : FnScope ["orders", "different", "order", "told"] ["orders"] (defScope sToldOrders) := ⟨rfl, rfl, rfl, by decide +kernel, rfl, by decide +kernel, by decide +kernel⟩
theorem ok_toldO {f : Addr} {fd : FuncData} (F : Fun K "told_orders" "told_orders" sToldOrders f fd) (T : Txt K mg CM CS) : FnOk P w K mg base CX0 1 f fd ["orders"] (spToldO CX) := by
  refine F.ok scToldO (fun vs H Q E h => ?_) (fun cdv A outer s0 H vs Q E hr h => ?_)
  · obtain ⟨q, s, rfl, _⟩ := h
    rfl
  · obtain ⟨q, s, rfl, hG, ⟨as, hq, hE⟩, k⟩ := h
    have hu := hu_of hr
    refine ⟨_, pss_cons (ps_set (i := 1) scToldO.nd rfl (Or.inl rfl) (pe_lst pa_nil))
      (pss_cons (ps_for PassesOwn.never rfl (pi_list (pe_callB (cr_sortedL hr.units) rfl T.bSorted (by decide +kernel) (pa_cons (pv 0) pa_nil))) (pg_name (i := 2) scToldO.nd rfl (Or.inl rfl))
        (pss_one (ps_if (pt_cmpR (op_notInL hu) (pv 2) (pv 1) (by rfl)) (pss_one (ps_expr (pe_bm PySem.F.plainAttrs_list PySem.F.slot_list_append PySem.F.type_list_append mt_append (pv 1) (pa_cons (pv 2) pa_nil)))) pss_nil)))
      (pss_cons (ps_set (i := 3) scToldO.nd rfl (Or.inl rfl) (pe_lst (pa_cons (pe_callB call_len_seq (by rfl) T.bLen PySem.boot_len (pa_cons (pv 1) pa_nil)) pa_nil)))
      (pss_cons (ps_for PassesOwn.never rfl (pi_list (pv 1)) (pg_name (i := 2) scToldO.nd rfl (Or.inl rfl))
        (pss_cons (ps_expr (pe_bm PySem.F.plainAttrs_list PySem.F.slot_list_append PySem.F.type_list_append mt_append (pv 3) (pa_cons (pe_callB call_len_seq (by rfl) T.bLen PySem.boot_len (pa_cons (pv 2) pa_nil)) pa_nil)))
        (pss_one (ps_expr (pe_bm PySem.F.plainAttrs_list PySem.F.slot_list_extend PySem.F.type_list_extend mt_extend (pv 3) (pa_cons (pv 2) pa_nil))))))
      (pss_one (ps_ret (pv 3)))))), ?_⟩
    have sz := sizeLine_eq
    have hfl : (s.formulas.map s.order).length ≤ 1296 := by rw [List.length_map]; exact formulas_len hG
    have h24 : ∀ o ∈ s.formulas.map s.order, o.length ≤ 24 := fun o ho => by
      obtain ⟨g, _, e⟩ := List.mem_map.mp ho
      rw [← e]
      exact order_len hG g
    -- different = []
    refine ⟨Nat.zero_le _, fun dd hdd => ?_⟩
    have sd : Same H (upd H dd (.lst [])) := Same.new hdd
    -- sorted(orders)
    refine ⟨_, rfl, q, as, _, rfl, sd _ _ hq, hE.mono fun _ _ z => z.same sd, by omega, fun bs gs p hP hS hE2 hp => ?_⟩
    have hpd : dd ≠ p := ne_of_none upd_same hp
    have hgl : gs.length ≤ 1296 := by rw [hP.length_eq]; exact hfl
    have hEb : Each (NatsAt H) bs gs := hE2 _ hE
    refine ⟨p, rfl, ⟨_, SqL.of upd_same⟩, for_list (K := K) (a := p) (xs := bs.map V.ref)
      (fun i σ H2 => ∃ (v2 v3 : Option V) (ds : List Addr), σ = [some (.ref q), some (.ref dd), v2, v3] ∧ Same H H2 ∧ H2 p = some (.lst (bs.map V.ref)) ∧ H2 dd = some (.lst (ds.map V.ref)) ∧ Each (NatsAt H) ds (newTo gs i))
      ⟨none, none, [], rfl, sd.trans (Same.new hp), upd_same, by rw [upd_ne hpd]; exact upd_same, .nil⟩ (fun i σ H2 _ ⟨_, _, _, _, _, h, _⟩ => SqL.of h) ?_ ?_⟩
    · rintro i x σ H2 hi ⟨v2, v3, ds, rfl, s2, hp2, hd2, hD⟩
      obtain ⟨b, hb, rfl⟩ := refs_get hi
      obtain ⟨o, ho, hoN⟩ := hEb.get hb
      have hil : i < gs.length := (List.getElem?_eq_some_iff.mp ho).1
      have hdl := hD.len
      have hnl := newTo_len gs i (by omega)
      refine ⟨_, rfl, _, rfl, b, dd, o, ds, _, rfl, rfl, hoN.same s2, hd2, hD.mono fun _ _ z => z.same s2, _, rfl, ?_⟩
      by_cases c : o ∈ newTo gs i
      · rw [decide_eq_true c]
        refine iteF ⟨_, _, ds, rfl, s2, hp2, hd2, ?_⟩
        rw [newTo_succ ho]
        unfold addNew
        rw [if_pos c]
        exact hD
      · rw [decide_eq_false c]
        refine iteT ⟨_, rfl, .inl ⟨rfl, _, SqL.of hd2⟩, _, rfl, dd, _, _, rfl, rfl, hd2, ?_, ?_⟩
        · rw [List.length_map]
          omega
        · refine ⟨_, _, ds ++ [b], rfl, fun c o e => ?_, ?_, ?_, ?_⟩
          · rw [upd_ne (ne_of_none e hdd)]
            exact s2 _ _ e
          · rw [upd_ne hpd.symm]
            exact hp2
          · rw [upd_same, List.map_append]
            rfl
          · rw [newTo_succ ho]
            unfold addNew
            rw [if_neg c]
            exact hD.snoc hoN
    · rintro σ H2 ⟨v2, v3, ds, rfl, s2, hp2, hd2, hD⟩
      have eo : newTo gs (bs.map V.ref).length = s.orders := by
        rw [List.length_map, hEb.len]
        exact orders_new hP hS
      rw [eo] at hD
      have hol : s.orders.length ≤ 1296 := by
        rw [← eo, List.length_map, hEb.len]
        exact Nat.le_trans (newTo_len gs _ (Nat.le_refl _)) hgl
      have ho24 : ∀ o ∈ s.orders, o.length ≤ 24 := fun o ho => h24 o (((orders_up s).2 o).mp ho)
      have edl : (ds.map V.ref).length = s.orders.length := by rw [List.length_map, hD.len]
      -- told = [len(different)]
      refine ⟨_, rfl, dd, _, rfl, .inl (SqL.of hd2), (by show 1 ≤ sizeLine; decide), fun t ht => ?_⟩
      rw [edl]
      have st : Same H2 (upd H2 t (.lst [.int (s.orders.length : Nat)])) := Same.new ht
      have nt : H t = none := s2.free ht
      refine ⟨_, rfl, dd, rfl, ⟨_, SqL.of (st _ _ hd2)⟩, for_list (K := K) (a := dd) (xs := ds.map V.ref)
        (fun i σ H3 => ∃ v2 : Option V, σ = [some (.ref q), some (.ref dd), v2, some (.ref t)] ∧ Same H2 H3 ∧ H3 t = some (.lst (nv (s.orders.length :: toldTo s.orders i))))
        ⟨_, rfl, st, upd_same⟩ (fun i σ H3 _ ⟨_, _, s3, _⟩ => SqL.of (s3 _ _ hd2)) ?_ ?_⟩
      · rintro i x σ H3 hi ⟨w2, rfl, s3, ht3⟩
        obtain ⟨b, hb, rfl⟩ := refs_get hi
        obtain ⟨o, ho, hoN⟩ := hD.get hb
        have hil : i < s.orders.length := (List.getElem?_eq_some_iff.mp ho).1
        have hb3 : H3 b = some (.lst (nv o)) := s3 _ _ (s2 _ _ hoN)
        have htl := toldTo_len ho24 i (Nat.le_of_lt hil)
        have htl2 : i * (24 + 1) ≤ 1296 * 25 := Nat.mul_le_mul (by omega) (Nat.le_refl _)
        have hol2 := ho24 o (List.mem_of_getElem? ho)
        have eol : (nv o).length = o.length := List.length_map _
        have nbt : b ≠ t := ne_of_none hoN nt
        refine ⟨_, rfl, .inl ⟨rfl, _, SqL.of ht3⟩, _, rfl, b, _, rfl, .inl (SqL.of hb3), t, _, _, rfl, rfl, ht3, ?_, ?_⟩
        · rw [List.length_map, List.length_cons]
          omega
        · refine ⟨_, rfl, .inl ⟨rfl, _, SqL.of upd_same⟩, _, rfl, t, b, _, _, rfl, rfl, upd_same, by rw [upd_ne nbt]; exact hb3, ?_, ?_⟩
          · rw [List.length_append, List.length_map, List.length_cons, eol]
            show _ + 1 + 1 + _ ≤ _
            omega
          · refine ⟨_, rfl, fun c o e => ?_, ?_⟩
            · rw [upd_ne (ne_of_none e ht), upd_ne (ne_of_none e ht)]
              exact s3 _ _ e
            · rw [upd_same, toldTo_succ ho, eol, List.append_assoc]
              show _ = some (HO.lst (nv ((s.orders.length :: toldTo s.orders i) ++ (o.length :: o))))
              rw [nv_app]
              rfl
      · rintro σ H3 ⟨w2, rfl, s3, ht3⟩
        refine ⟨_, rfl, k H3 t (s2.trans s3) nt ?_⟩
        rw [edl, toldTo_all] at ht3
        exact ht3
end
end Sm
end
section
set_option Elab.async false
set_option linter.all false
set_option maxRecDepth 100000
set_option maxHeartbeats 2000000
namespace Sm
open PySem PySem.Spec L2
open PyProof.Rows hiding St
theorem row_of_F {s : Si81.Shelf} {o : List Nat} {x : Si81.Best} (g : Good s) (h : BestF s (s.ordered o) x) : x.row.length ≤ 4 := by
  obtain ⟨t, ht, _⟩ := h.fil
  have h1 : x.row ∈ (s.ordered o).filter fun l => l.sum == x.drops := by rw [ht]; exact .head _
  have h2 : x.row ∈ s.formulas := (List.mem_filter.mp (List.mem_filter.mp h1).1).1
  rw [right_len (formulas_right h2)]
  exact g.few
theorem row_of_E {s : Si81.Shelf} {o : List Nat} {x : Si81.Best} (g : Good s) (h : BestE s (s.ordered o) x) : x.row.length ≤ 4 := by
  obtain ⟨t, ht, _⟩ := h.fil
  have h1 : x.row ∈ sumOf x.drops (evenOf s x.shortest (s.ordered o)) := by rw [ht]; exact .head _
  have h2 : x.row ∈ s.formulas := (List.mem_filter.mp (List.mem_filter.mp (List.mem_filter.mp h1).1).1).1
  rw [right_len (formulas_right h2)]
  exact g.few
theorem ordered_len {s : Si81.Shelf} (g : Good s) (o : List Nat) : (s.ordered o).length ≤ 1296 := Nat.le_trans (List.length_filter_le _ _) (formulas_len g)
theorem refV_neg {r : Int} (h : r < 0) : refV r = .int r := if_pos h
theorem refV_pos {r : Int} (h : ¬ r < 0) : refV r = .non := if_neg h
section
variable {P : Program} {w : World} {K : PySem.W.Frag} {mg : Str → Option Value} {base : Heap} {CM CS CX : Addr}
/-! ### fewest -/
def spFewest (K : PySem.W.Frag) (CS CM : Addr) : Sp := fun vs H Q _ => ∃ (p l o : Addr) (s : Si81.Shelf) (od : List Nat), vs = [.ref p, .ref o] ∧ ShAt CS CM H p l s ∧ SqL K H o (nv od) ∧ od.length ≤ 6 ∧ Good s ∧ Done CS CM p l s (.fewest od) H Q
theorem scFewest : FnScope ["self", "order", "refusal", "mixtures"] ["self", "order"] (defScope sFewest) := ⟨rfl, rfl, rfl, by decide +kernel, rfl, by decide +kernel, by decide +kernel⟩
theorem ok_fewest {f : Addr} {fd : FuncData} (F : Fun K "fewest" "Shelf.fewest" sFewest f fd) (T : Txt K mg CM CS) (R : Fn P w K mg base "order_refusal" 5 ["order", "count"] (spRefusal K)) (W : Mth P w K mg base CS "mixtures_with" 5 ["self", "order"] (spMixWith K CS CM CX))
    (TF : Fn P w K mg base "told_fewest" 5 ["mixtures"] (spToldF CX)) : FnOk P w K mg base CX0 6 f fd ["self", "order"] (spFewest K CS CM) := by
  obtain ⟨fR, fdR, GR, mR, kR, bR⟩ := R
  obtain ⟨fW, fdW, GW, mW, bW⟩ := W
  obtain ⟨fT, fdT, GT, mT, kT, bT⟩ := TF
  refine F.ok scFewest (fun vs H Q E h => ?_) (fun cdv A outer s0 H vs Q E hr h => ?_)
  · obtain ⟨p, l, o, s, od, rfl, _⟩ := h
    rfl
  · obtain ⟨p, l, o, s, od, rfl, hS, ho, h6, hG, k⟩ := h
    obtain ⟨dx, hp, as, hl, hM⟩ := id hS
    have el : (as.map V.ref).length = s.count := by rw [List.length_map]; exact hM.len
    refine ⟨_, pss_cons (ps_set (i := 2) scFewest.nd rfl (Or.inl rfl) (pe_call GR hr rfl mR kR bR .nil pass0 (pa_cons (pv 1) (pa_cons (pe_callB call_len_seq (by rfl) T.bLen PySem.boot_len (pa_cons (pe_fld (pv 0) rfl) pa_nil)) pa_nil))))
      (pss_cons (ps_if (pt_cmpR op_notN (pv 2) pe_non (nomark _)) (pss_one (ps_ret (pe_lst (pa_cons (pv 2) pa_nil)))) pss_nil)
      (pss_cons (ps_set (i := 3) scFewest.nd rfl (Or.inl rfl) (pe_meth (pv 0) T.clS mW GW hr bW .nil pass0 (pa_cons (pv 1) pa_nil)))
      (pss_cons (ps_if (pt_not (pt_truth (pv 3) (fun _ => rfl))) (pss_one (ps_ret (pe_lst (pa_cons (pe_gint T.cNoFormula rfl) pa_nil)))) pss_nil)
      (pss_one (ps_ret (pe_call GT hr rfl mT kT bT .nil pass0 (pa_cons (pv 3) pa_nil))))))), ?_⟩
    refine ⟨_, rfl, _, rfl, p, CS, dx, _, _, rfl, hp, T.clS, T.sMats, sf_mats _ _, l, _, rfl, .inl (SqL.of hl), ?_⟩
    rw [el]
    refine ⟨o, s, od, rfl, ho, h6, fun H1 s1 => ?_⟩
    by_cases neg : s.asked od < 0
    · rw [refV_neg neg]
      refine ⟨_, rfl, rfl, _, rfl, ?_⟩
      refine iteT ⟨_, rfl, (by show 1 ≤ sizeLine; decide), fun b hb => ?_⟩
      exact Done.pure k (r := Si81.ok (s.asked od)) (if_pos neg) hS (s1.trans (Same.new hb)) (s1.free hb) upd_same
    · rw [refV_pos neg]
      refine ⟨_, rfl, rfl, _, rfl, ?_⟩
      refine iteF ⟨_, rfl, p, dx, _, rfl, s1 _ _ hp, sf_no _ _ (by decide +kernel) (by decide +kernel), _, rfl, p, l, o, s, od, rfl, hS.same s1, hG, s1.seq ho, fun H2 q s2 nq hX => ?_⟩
      have s12 := s1.trans s2
      obtain ⟨xs, hq, hE⟩ := id hX
      refine ⟨_, rfl, _, .inl ⟨_, SqL.of hq, rfl⟩, ?_⟩
      have rel := fewest_rel s od
      cases ef : s.fewest od with
      | none =>
        rw [ef] at rel
        have e0 : s.ordered od = [] := rel
        rw [e0] at hE
        cases hE
        refine iteT ⟨(by show 1 ≤ sizeLine; decide), fun b hb => ?_⟩
        have e : Si81.step s (.fewest od) = (s, Si81.ok (-6)) := by
          show (if s.asked od < 0 then (s, Si81.ok (s.asked od)) else (s, match s.fewest od with | none => Si81.ok (-6) | some x => _)) = _
          rw [if_neg neg, ef]
        exact Done.pure k e hS (s12.trans (Same.new hb)) (s12.free hb) upd_same
      | some x =>
        rw [ef] at rel
        have hB : BestF s (s.ordered od) x := rel
        have hne : xs ≠ [] := by
          intro z
          subst z
          have hl0 := hE.len
          obtain ⟨t, ht, _⟩ := hB.fil
          have : s.ordered od = [] := List.eq_nil_of_length_eq_zero hl0.symm
          rw [this] at ht
          cases ht
        have ne : (!(xs.map V.ref).isEmpty) = true := by
          cases xs with
          | nil => exact absurd rfl hne
          | cons _ _ => rfl
        rw [ne]
        refine iteF ⟨_, rfl, q, s, _, x, rfl, hX, hB, ordered_len hG od, row_of_F hG hB, fun H3 z s3 nz hz => ?_⟩
        have e : Si81.step s (.fewest od) = (s, ⟨((x.drops : Nat) : Int), Si81.ints ([x.shortest, x.many] ++ x.row)⟩) := by
          show (if s.asked od < 0 then (s, Si81.ok (s.asked od)) else (s, match s.fewest od with | none => Si81.ok (-6) | some x => _)) = _
          rw [if_neg neg, ef]
        refine Done.pure k e hS (s12.trans s3) (s12.free nz) ?_
        have hz' : H3 z = some (.lst (nv ([x.drops, x.shortest, x.many] ++ x.row))) := hz
        rw [hz', nv_iv]
        rfl
/-! ### even -/
def spEven (K : PySem.W.Frag) (CS CM : Addr) : Sp := fun vs H Q _ => ∃ (p l o : Addr) (s : Si81.Shelf) (od : List Nat), vs = [.ref p, .ref o] ∧ ShAt CS CM H p l s ∧ SqL K H o (nv od) ∧ od.length ≤ 6 ∧ Good s ∧ Done CS CM p l s (.even od) H Q
theorem scEven : FnScope ["self", "order", "refusal", "mixtures"] ["self", "order"] (defScope sEven) := ⟨rfl, rfl, rfl, by decide +kernel, rfl, by decide +kernel, by decide +kernel⟩
theorem ok_even {f : Addr} {fd : FuncData} (F : Fun K "even" "Shelf.even" sEven f fd) (T : Txt K mg CM CS) (R : Fn P w K mg base "order_refusal" 5 ["order", "count"] (spRefusal K)) (W : Mth P w K mg base CS "mixtures_with" 5 ["self", "order"] (spMixWith K CS CM CX))
    (TF : Fn P w K mg base "told_even" 5 ["mixtures"] (spToldE CX)) : FnOk P w K mg base CX0 6 f fd ["self", "order"] (spEven K CS CM) := by
  obtain ⟨fR, fdR, GR, mR, kR, bR⟩ := R
  obtain ⟨fW, fdW, GW, mW, bW⟩ := W
  obtain ⟨fT, fdT, GT, mT, kT, bT⟩ := TF
  refine F.ok scEven (fun vs H Q E h => ?_) (fun cdv A outer s0 H vs Q E hr h => ?_)
  · obtain ⟨p, l, o, s, od, rfl, _⟩ := h
    rfl
  · obtain ⟨p, l, o, s, od, rfl, hS, ho, h6, hG, k⟩ := h
    obtain ⟨dx, hp, as, hl, hM⟩ := id hS
    have el : (as.map V.ref).length = s.count := by rw [List.length_map]; exact hM.len
    refine ⟨_, pss_cons (ps_set (i := 2) scEven.nd rfl (Or.inl rfl) (pe_call GR hr rfl mR kR bR .nil pass0 (pa_cons (pv 1) (pa_cons (pe_callB call_len_seq (by rfl) T.bLen PySem.boot_len (pa_cons (pe_fld (pv 0) rfl) pa_nil)) pa_nil))))
      (pss_cons (ps_if (pt_cmpR op_notN (pv 2) pe_non (nomark _)) (pss_one (ps_ret (pe_lst (pa_cons (pv 2) pa_nil)))) pss_nil)
      (pss_cons (ps_set (i := 3) scEven.nd rfl (Or.inl rfl) (pe_meth (pv 0) T.clS mW GW hr bW .nil pass0 (pa_cons (pv 1) pa_nil)))
      (pss_cons (ps_if (pt_not (pt_truth (pv 3) (fun _ => rfl))) (pss_one (ps_ret (pe_lst (pa_cons (pe_gint T.cNoFormula rfl) pa_nil)))) pss_nil)
      (pss_one (ps_ret (pe_call GT hr rfl mT kT bT .nil pass0 (pa_cons (pv 3) pa_nil))))))), ?_⟩
    refine ⟨_, rfl, _, rfl, p, CS, dx, _, _, rfl, hp, T.clS, T.sMats, sf_mats _ _, l, _, rfl, .inl (SqL.of hl), ?_⟩
    rw [el]
    refine ⟨o, s, od, rfl, ho, h6, fun H1 s1 => ?_⟩
    by_cases neg : s.asked od < 0
    · rw [refV_neg neg]
      refine ⟨_, rfl, rfl, _, rfl, ?_⟩
      refine iteT ⟨_, rfl, (by show 1 ≤ sizeLine; decide), fun b hb => ?_⟩
      exact Done.pure k (r := Si81.ok (s.asked od)) (if_pos neg) hS (s1.trans (Same.new hb)) (s1.free hb) upd_same
    · rw [refV_pos neg]
      refine ⟨_, rfl, rfl, _, rfl, ?_⟩
      refine iteF ⟨_, rfl, p, dx, _, rfl, s1 _ _ hp, sf_no _ _ (by decide +kernel) (by decide +kernel), _, rfl, p, l, o, s, od, rfl, hS.same s1, hG, s1.seq ho, fun H2 q s2 nq hX => ?_⟩
      have s12 := s1.trans s2
      obtain ⟨xs, hq, hE⟩ := id hX
      refine ⟨_, rfl, _, .inl ⟨_, SqL.of hq, rfl⟩, ?_⟩
      have rel := even_rel s od
      cases ef : s.even od with
      | none =>
        rw [ef] at rel
        have e0 : s.ordered od = [] := rel
        rw [e0] at hE
        cases hE
        refine iteT ⟨(by show 1 ≤ sizeLine; decide), fun b hb => ?_⟩
        have e : Si81.step s (.even od) = (s, Si81.ok (-6)) := by
          show (if s.asked od < 0 then (s, Si81.ok (s.asked od)) else (s, match s.even od with | none => Si81.ok (-6) | some x => _)) = _
          rw [if_neg neg, ef]
        exact Done.pure k e hS (s12.trans (Same.new hb)) (s12.free hb) upd_same
      | some x =>
        rw [ef] at rel
        have hB : BestE s (s.ordered od) x := rel
        have hne : xs ≠ [] := by
          intro z
          subst z
          have hl0 := hE.len
          obtain ⟨t, ht, _⟩ := hB.fil
          have : s.ordered od = [] := List.eq_nil_of_length_eq_zero hl0.symm
          rw [this] at ht
          cases ht
        have ne : (!(xs.map V.ref).isEmpty) = true := by
          cases xs with
          | nil => exact absurd rfl hne
          | cons _ _ => rfl
        rw [ne]
        refine iteF ⟨_, rfl, q, s, _, x, rfl, hX, hB, ordered_len hG od, row_of_E hG hB, fun H3 z s3 nz hz => ?_⟩
        have e : Si81.step s (.even od) = (s, ⟨((x.shortest : Nat) : Int), Si81.ints ([x.drops, x.many] ++ x.row)⟩) := by
          show (if s.asked od < 0 then (s, Si81.ok (s.asked od)) else (s, match s.even od with | none => Si81.ok (-6) | some x => _)) = _
          rw [if_neg neg, ef]
        refine Done.pure k e hS (s12.trans s3) (s12.free nz) ?_
        have hz' : H3 z = some (.lst (nv ([x.shortest, x.drops, x.many] ++ x.row))) := hz
        rw [hz', nv_iv]
        rfl
/-! ### orders -/
def spOrders (CS CM : Addr) : Sp := fun vs H Q _ => ∃ (p l : Addr) (s : Si81.Shelf), vs = [.ref p] ∧ ShAt CS CM H p l s ∧ Good s ∧ Done CS CM p l s .orders H Q
theorem scOrders : FnScope ["self", "mixture"] ["self"] (defScope sOrders) := ⟨rfl, rfl, rfl, by decide +kernel, rfl, by decide +kernel, by decide +kernel⟩
theorem ok_orders {f : Addr} {fd : FuncData} (F : Fun K "orders" "Shelf.orders" sOrders f fd) (T : Txt K mg CM CS) (TX : TxtX K mg CX) (MX : Mth P w K mg base CS "mixtures" 5 ["self"] (spMixtures CS CM CX)) (TO : Fn P w K mg base "told_orders" 5 ["orders"] (spToldO CX)) :
    FnOk P w K mg base CX0 6 f fd ["self"] (spOrders CS CM) := by
  obtain ⟨fO, fdO, GO, mO, bO⟩ := MX
  obtain ⟨fT, fdT, GT, mT, kT, bT⟩ := TO
  refine F.ok scOrders (fun vs H Q E h => ?_) (fun cdv A outer s0 H vs Q E hr h => ?_)
  · obtain ⟨p, l, s, rfl, _⟩ := h
    rfl
  · obtain ⟨p, l, s, rfl, hS, hG, k⟩ := h
    obtain ⟨dx, hp, hL⟩ := id hS
    refine ⟨_, pss_one (ps_ret (pe_call GT hr rfl mT kT bT .nil pass0 (pa_cons (pe_lc (own := [("mixture", 1)]) (g := gName 1) (tt := tYes) (te := tFld K (tVar 1) "order") rfl scOrders.nd
      (pi_list (pe_meth0 (pv 0) T.clS mO GO hr bO .nil pass0)) (blkOk_by (by show blkC ["self", "mixture"] (defScope sOrders) _ _ = true; decide +kernel)) (fun _ _ _ _ _ => pg_name (i := 1) scOrders.nd rfl (Or.inl rfl)) (fun _ _ _ _ _ => pts_nil)
      (fun _ _ _ _ _ => pe_fld (pv 1) rfl)) pa_nil))), ?_⟩
    have sz := sizeLine_eq
    have hflen := formulas_len hG
    refine ⟨_, rfl, p, dx, _, rfl, hp, sf_no _ _ (by decide +kernel) (by decide +kernel), p, l, s, rfl, hS, hG, fun H1 q s1 nq ⟨as, hq, hE⟩ => ?_⟩
    refine ⟨q, rfl, ⟨_, SqL.of hq⟩, fun D hD => lc_list (K := K) (a := q) (xs := as.map V.ref)
      (fun i H2 => ∃ cs : List Addr, Same H1 H2 ∧ H2 D = some (.lst (cs.map V.ref)) ∧ Each (NatsAt H1) cs ((s.formulas.take i).map s.order)) ⟨[], Same.new hD, upd_same, .nil⟩ (fun i H2 _ ⟨_, s2, _⟩ => SqL.of (s2 _ _ hq)) ?_ ?_⟩
    · rintro i x H2 hi ⟨cs, s2, hD2, hC⟩
      obtain ⟨b, hb, rfl⟩ := refs_get hi
      obtain ⟨g, hg, hgM⟩ := hE.get hb
      obtain ⟨dm, fa, oa, m1, m2, m3⟩ := hgM
      have hclen := hC.len
      rw [List.length_map, List.length_take] at hclen
      refine ⟨rfl, yesI ⟨_, rfl, b, CX, dm, _, _, rfl, s2 _ _ m1, TX.cl, TX.nOrder, xf_order _ _ _ _, _, hD2, ?_, cs ++ [oa], fun c o e => ?_, ?_, ?_⟩⟩
      · rw [List.length_map]
        omega
      · rw [upd_ne (ne_of_none e hD)]
        exact s2 _ _ e
      · rw [upd_same, List.map_append]
        rfl
      · rw [take_more hg, List.map_append]
        exact hC.snoc m3
    · rintro H2 ⟨cs, s2, hD2, hC⟩
      have e1 : s.formulas.take (as.map V.ref).length = s.formulas := by rw [List.length_map, hE.len, List.take_length]
      rw [e1] at hC
      have s12 := s1.trans s2
      refine ⟨D, s, rfl, hG, ⟨cs, hD2, hC.mono fun _ _ z => z.same s2⟩, fun H3 z s3 nz hz => ?_⟩
      have e : Si81.step s .orders = (s, ⟨((s.orders.length : Nat) : Int), Si81.ints (s.orders.flatMap fun o => o.length :: o)⟩) := rfl
      refine Done.pure k e hS (s12.trans s3) (s12.free nz) ?_
      have hz' : H3 z = some (.lst (nv (s.orders.length :: s.orders.flatMap fun o => o.length :: o))) := hz
      rw [hz', nv_iv]
      rfl
end
end Sm
end
section
set_option Elab.async false
set_option linter.all false
set_option maxRecDepth 100000
set_option maxHeartbeats 2000000
namespace Sm
open PySem PySem.Spec L2
open PyProof.Rows hiding St
theorem ShAt.other {CS CM : Addr} {H : Hp} {p l g : Addr} {s : Si81.Shelf} {xs : List V} {o : HO} (h : ShAt CS CM H p l s) (hg : H g = some (.lst xs)) (n : g ≠ l) : ShAt CS CM (upd H g o) p l s := by
  obtain ⟨dx, hp, as, hl, hM⟩ := h
  have n1 : p ≠ g := ne_of hp hg (by intro z; cases z)
  refine ⟨dx, by rw [upd_ne n1]; exact hp, as, by rw [upd_ne n.symm]; exact hl, hM.len, fun j a m h1 h2 => ?_⟩
  obtain ⟨d, z⟩ := hM.at_ j a m h1 h2
  have n2 : a ≠ g := ne_of z hg (by intro y; cases y)
  exact ⟨d, by rw [upd_ne n2]; exact z⟩
theorem FrzSq.upd {K : PySem.W.Frag} {H : Hp} {a g : Addr} {xs : List V} {o u : HO} (h : FrzSq K H a xs) (hg : H g = some u) (nu : ∀ x y, u ≠ .frz x y) : FrzSq K (L2.upd H g o) a xs :=
  h.keep fun b x y z => by
    have n : b ≠ g := ne_of z hg (fun e => nu x y e.symm)
    rw [upd_ne n]; exact z
theorem FrzSq.same {K : PySem.W.Frag} {H H' : Hp} {a : Addr} {xs : List V} (h : FrzSq K H a xs) (e : Same H H') : FrzSq K H' a xs := h.keep fun b x y z => e _ _ z
theorem FrzSq.frame {K : PySem.W.Frag} {CS CM : Addr} {H H' : Hp} {a p l : Addr} {s : Si81.Shelf} {xs : List V} (h : FrzSq K H a xs) (hS : ShAt CS CM H p l s) (e : Frame p l H H') : FrzSq K H' a xs := by
  obtain ⟨dx, hp, as, hl, _⟩ := hS
  exact h.keep fun b x y z => e b _ z (ne_of z hp (by intro q; cases q)) (ne_of z hl (by intro q; cases q))
theorem iv_app (a b : List Int) : iv (a ++ b) = iv a ++ iv b := List.map_append
/-- a slice of a list of ints -/
theorem cut_iv {ns : List Int} {i e : Nat} (h1 : i < e) (h2 : e ≤ ns.length) : cutV (iv ns) (some (i : Int)) (some (e : Int)) = iv ((ns.drop i).take (e - i)) := by
  unfold cutV
  rw [HT.sIx_nat, HT.sIx_nat]
  have hl : (iv ns).length = ns.length := List.length_map _
  rw [hl, Nat.min_eq_left (show i ≤ ns.length by omega), Nat.min_eq_left h2]
  unfold iv
  rw [List.map_take, List.map_drop]
section
variable {P : Program} {w : World} {K : PySem.W.Frag} {mg : Str → Option Value} {base : Heap} {CM CS : Addr}
/-! ### what the two helpers promise -/
def spCallEnd (K : PySem.W.Frag) : Sp := fun vs H Q _ => ∃ (a : Addr) (ns : List Int) (i e : Nat) (c : Si81.Call), vs = [.ref a, .int (i : Nat)] ∧ SqL K H a (iv ns) ∧ View ns i c e ∧ ∀ H' : Hp, Same H H' → Q (.int (e : Nat)) H'
/-- a call as it may be asked -/
def Short6 : Si81.Call → Prop
  | .course f => f.length ≤ 6
  | .fewest f => f.length ≤ 6
  | .even f => f.length ≤ 6
  | _ => True
theorem short6_of {ns : List Int} {i e : Nat} {c : Si81.Call} (h : View ns i c e) : Short6 c := by
  cases c <;> first | exact trivial | exact h.2.2
def spAnswer (K : PySem.W.Frag) (CS CM : Addr) : Sp := fun vs H Q _ => ∃ (p l q : Addr) (s : Si81.Shelf) (c : Si81.Call), vs = [.ref p, .ref q] ∧ ShAt CS CM H p l s ∧ H q = some (.lst (iv (numsC c))) ∧ q ≠ l ∧ Good s ∧ Short6 c ∧ Done CS CM p l s c H Q
/-- answers' promise -/
def spAnswers (K : PySem.W.Frag) : Sp := fun vs H Q _ => ∃ (a : Addr) (ns : List Int), vs = [.ref a] ∧ FrzSq K H a (iv ns) ∧ ns.length ≤ 2000 ∧ PySi81.answers_asked ns = true ∧ ∀ (H' : Hp) (p : Addr), H' p = some (.lst (iv (PySi81.answers ns))) → Q (.ref p) H'
theorem scAnswers : FnScope ["calls", "shelf", "given", "place", "end", "answered"] ["calls"] (defScope sAnswers) := ⟨rfl, rfl, rfl, by decide +kernel, rfl, by decide +kernel, by decide +kernel⟩
/-- the loop's word at place i -/
structure Word (K : PySem.W.Frag) (CS CM a p g : Addr) (ns : List Int) (i : Nat) (H : Hp) : Prop where
  ex : ∃ (fuel n : Nat) (rest : List (List (List Int))) (s : Si81.Shelf) (l : Addr) (out : List Int), i ≤ ns.length ∧ ShAt CS CM H p l s ∧ Good s ∧ FrzSq K H a (iv ns) ∧ H g = some (.lst (iv out)) ∧ g ≠ l ∧
    PyFlat.calls PySi81.shape fuel (ns.drop i) = some rest ∧ ((rest.map PySi81.whole).all Si81Neutral.asked1) = true ∧ Si81Neutral.short s n (rest.map PySi81.whole) = true ∧ out.length + n + rest.length ≤ 1000059 ∧
    PySi81.answers ns = out ++ PyFlat.told (PyFlat.played Si81Neutral.step s (rest.map PySi81.whole))
theorem ok_answers {f : Addr} {fd : FuncData} {k : Nat} (F : Fun K "answers" "answers" sAnswers f fd) (T : Txt K mg CM CS) (M : Mak P w K mg base CS (k + 1) ["self"] (spShInit CS CM)) (CE : Fn P w K mg base "call_end" (k + 2) ["calls", "place"] (spCallEnd K))
    (AN : Fn P w K mg base "answer" (k + 2) ["shelf", "call"] (spAnswer K CS CM)) : FnOk P w K mg base CX0 (k + 3) f fd ["calls"] (spAnswers K) := by
  obtain ⟨fM, fdM, GM, MM, bM⟩ := M
  obtain ⟨fE, fdE, GE, mE, kE, bE⟩ := CE
  obtain ⟨fA, fdA, GA, mA, kA, bA⟩ := AN
  refine F.ok scAnswers (fun vs H Q E h => ?_) (fun cdv A outer s0 H vs Q E hr h => ?_)
  · obtain ⟨a, ns, rfl, _⟩ := h
    rfl
  · obtain ⟨a, ns, rfl, hF, hlen, hask, kk⟩ := h
    obtain ⟨cs, c1, c2, c3, c4, c5⟩ := asked_start hask
    refine ⟨_, pss_cons (ps_set (i := 1) scAnswers.nd rfl (Or.inl rfl) (pe_make0 MM GM hr rfl T.mgS bM .nil pass0)) (pss_cons (ps_set (i := 2) scAnswers.nd rfl (Or.inl rfl) (pe_lst pa_nil)) (pss_cons (ps_set (i := 3) scAnswers.nd rfl (Or.inl rfl) pe_int)
      (pss_cons (ps_while PassesOwn.never (pt_cmpR op_lt (pv 3) (pe_callB call_len_seq (by rfl) T.bLen PySem.boot_len (pa_cons (pv 0) pa_nil)) (nomark _))
        (pss_cons (ps_set (i := 4) scAnswers.nd rfl (Or.inl rfl) (pe_call GE hr rfl mE kE bE .nil pass0 (pa_cons (pv 0) (pa_cons (pv 3) pa_nil))))
        (pss_cons (ps_set (i := 5) scAnswers.nd rfl (Or.inl rfl) (pe_call GA hr rfl mA kA bA .nil pass0 (pa_cons (pv 1) (pa_cons (pe_slice sl_list (pv 0) (po_some (pv 3)) (po_some (pv 4))) pa_nil))))
        (pss_cons (ps_expr (pe_bm PySem.F.plainAttrs_list PySem.F.slot_list_append PySem.F.type_list_append mt_append (pv 2) (pa_cons (pe_callB call_len_seq (by rfl) T.bLen PySem.boot_len (pa_cons (pv 5) pa_nil)) pa_nil)))
        (pss_cons (ps_expr (pe_bm PySem.F.plainAttrs_list PySem.F.slot_list_extend PySem.F.type_list_extend mt_extend (pv 2) (pa_cons (pv 5) pa_nil)))
        (pss_one (ps_set (i := 3) scAnswers.nd rfl (Or.inl rfl) (pv 4))))))))
      (pss_one (ps_ret (pv 2)))))), ?_⟩
    -- shelf = Shelf()
    intro p dp np nd ndp
    refine ⟨p, dp, rfl, upd_same, fun H1 l hS1 nl k1 => ⟨rfl, ?_⟩⟩
    have s1 : Same H H1 := Same.made np nd k1
    -- given = []
    refine ⟨Nat.zero_le _, fun g hg => ?_⟩
    obtain ⟨dx, hp1, as1, hl1, _⟩ := id hS1
    have ngl : g ≠ l := (ne_of_none hl1 hg).symm
    have s2 : Same H1 (upd H1 g (.lst [])) := Same.new hg
    have W0 : Word K CS CM a p g ns 0 (upd H1 g (.lst [])) :=
      ⟨ns.length, 999999, cs, Si81.init, l, [], Nat.zero_le _, hS1.same s2, init_good, (hF.same s1).same s2, upd_same, ngl, c1, c3, c4, by show 0 + 999999 + cs.length ≤ _; omega, by rw [c5]; rfl⟩
    refine ⟨fun m σ H' => ∃ (i : Nat) (v4 v5 : Option V), m + i = ns.length ∧ σ = [some (.ref a), some (.ref p), some (.ref g), some (.int (i : Nat)), v4, v5] ∧ Word K CS CM a p g ns i H', ⟨ns.length, 0, none, none, rfl, rfl, W0⟩, ?_⟩
    rintro m σ H' ⟨i, v4, v5, em, rfl, W⟩
    obtain ⟨fuel, n, rest, s, l, out, hi, hS, hG, hZ, hgO, ngl, d1, d2, d3, d4, d5⟩ := W.ex
    refine ⟨_, rfl, _, rfl, a, _, rfl, .inl hZ.sq, _, _, rfl, rfl, _, rfl, ?_⟩
    have elen : (iv ns).length = ns.length := List.length_map _
    refine ite2 (fun c => ?_) (fun c => ?_)
    · have hlt : i < ns.length := by
        have := of_decide_eq_true c
        rw [elen] at this
        omega
      obtain ⟨fuel', c0, rest', cc, e, rfl, hv, e1, e2, e3⟩ := next_call d1 hlt d2
      obtain ⟨v1, v2, v3⟩ := view_le hv
      refine ⟨fun σ' H'' => ∃ (v4 v5 : Option V), σ' = [some (.ref a), some (.ref p), some (.ref g), some (.int (e : Nat)), v4, v5] ∧ Word K CS CM a p g ns e H'', fun σ' H'' ⟨v4, v5, z, W'⟩ => ⟨ns.length - e, by omega, e, v4, v5, by omega, z, W'⟩, ?_⟩
      -- end = call_end(calls, place)
      refine ⟨_, rfl, _, rfl, a, ns, i, e, cc, rfl, hZ.sq, hv, fun Hc sc => ?_⟩
      replace hS := hS.same sc
      replace hZ := hZ.same sc
      replace hgO := sc _ _ hgO
      -- calls[place:end]
      refine ⟨_, rfl, _, rfl, _, rfl, _, rfl, _, rfl, _, rfl, a, _, rfl, hZ.sq, fun b hb => ?_⟩
      rw [cut_iv v1 v2, v3]
      obtain ⟨dx', hp', as', hl', _⟩ := id hS
      have sb : Same Hc (upd Hc b (.lst (iv (numsC cc)))) := Same.new hb
      have nbl : b ≠ l := (ne_of_none hl' hb).symm
      have nbg : b ≠ g := (ne_of_none hgO hb).symm
      refine ⟨p, l, b, s, cc, rfl, hS.same sb, upd_same, nbl, hG, short6_of hv, fun H2 l2 q hS2 hl2 fr nq hq => ?_⟩
      have ngp : g ≠ p := ne_of hgO hp' (by intro z; cases z)
      have hg1 : (upd Hc b (.lst (iv (numsC cc)))) g = some (.lst (iv out)) := sb _ _ hgO
      have hg2 : H2 g = some (.lst (iv out)) := fr g _ hg1 ngp ngl
      have ngl2 : g ≠ l2 := by
        rcases hl2 with z | z
        · rw [z]; exact ngl
        · exact ne_of_none hg1 z
      have nqg : q ≠ g := (ne_of_none hg1 nq).symm
      have hZ2 : FrzSq K H2 a (iv ns) := (hZ.same sb).frame (hS.same sb) fr
      obtain ⟨b1, b2⟩ := short_cons (e3 s) d3
      have d4' : out.length + n + (rest'.length + 1) ≤ 1000059 := d4
      have sz := sizeLine_eq
      have eo : (iv out).length = out.length := List.length_map _
      have ea : (iv (ansL (Si81.step s cc).2)).length = (ansN (Si81.step s cc).2).length := List.length_map _
      -- given.append(len(answered))
      refine ⟨_, rfl, .inl ⟨rfl, _, SqL.of hg2⟩, _, rfl, q, _, rfl, .inl (SqL.of hq), g, _, _, rfl, rfl, hg2, by rw [eo]; omega, ?_⟩
      have hg3 : (upd H2 g (.lst (iv out ++ [.int ((iv (ansL (Si81.step s cc).2)).length : Int)]))) g = some (.lst (iv out ++ [.int ((iv (ansL (Si81.step s cc).2)).length : Int)])) := upd_same
      have hq3 : (upd H2 g (.lst (iv out ++ [.int ((iv (ansL (Si81.step s cc).2)).length : Int)]))) q = some (.lst (iv (ansL (Si81.step s cc).2))) := by rw [upd_ne nqg]; exact hq
      -- given.extend(answered)
      refine ⟨_, rfl, .inl ⟨rfl, _, SqL.of hg3⟩, _, rfl, g, q, _, _, rfl, rfl, hg3, hq3, ?_, ?_⟩
      · rw [List.length_append, eo, ea]
        show out.length + 1 + _ ≤ _
        omega
      · refine ⟨_, rfl, _, _, rfl, ⟨fuel', n - (ansN (Si81.step s cc).2).length, rest', (Si81.step s cc).1, l2, out ++ (((ansN (Si81.step s cc).2).length : Int) :: ansN (Si81.step s cc).2), v2, ?_, step_good hG cc, ?_, ?_, ngl2, e1, e2, b2, ?_, ?_⟩⟩
        · exact (hS2.other hg2 ngl2).other hg3 ngl2
        · exact (hZ2.upd hg2 (by intro x y z; cases z)).upd hg3 (by intro x y z; cases z)
        · rw [upd_same, ea, iv_app, List.append_assoc]
          rfl
        · rw [List.length_append, List.length_cons]
          omega
        · rw [d5, played_cons s c0 rest' (e3 s), List.append_assoc]
    · have hge : i = ns.length := by
        have : ¬ ((i : Nat) : Int) < ((iv ns).length : Int) := fun z => c (decide_eq_true z)
        rw [elen] at this
        omega
      have e0 : ns.drop i = [] := by rw [hge]; exact List.drop_length
      rw [e0] at d1
      have e1 := calls_nil d1
      subst e1
      refine ⟨_, rfl, ?_⟩
      refine kk H' g ?_
      rw [hgO, d5]
      show _ = some (HO.lst (iv (out ++ [])))
      rw [List.append_nil]
end
end Sm
end
section
set_option Elab.async false
set_option linter.all false
set_option maxRecDepth 100000
set_option maxHeartbeats 2000000
namespace Sm
open PySem PySem.Spec L2
open PyProof.Rows hiding St
theorem ifEqT {a b : Int} {A B : Prop} (h : a = b) (x : A) : if decide (V.int a = V.int b) = true then A else B := by
  rw [if_pos (decide_eq_true (by rw [h]))]
  exact x
theorem ifEqF {a b : Int} {A B : Prop} (h : a ≠ b) (x : B) : if decide (V.int a = V.int b) = true then A else B := by
  rw [if_neg (fun z => h (V.int.inj (of_decide_eq_true z)))]
  exact x
theorem atI_one {α : Type} (x y : α) (xs : List α) : atI (x :: y :: xs) 1 = some y := atI_nat (xs := x :: y :: xs) (j := 1) rfl
theorem atI_two {α : Type} (x y z : α) (xs : List α) : atI (x :: y :: z :: xs) 2 = some z := atI_nat (xs := x :: y :: z :: xs) (j := 2) rfl
theorem atI_three {α : Type} (x y z u : α) (xs : List α) : atI (x :: y :: z :: u :: xs) 3 = some u := atI_nat (xs := x :: y :: z :: u :: xs) (j := 3) rfl
theorem drop_at {ns : List Int} {i : Nat} {x : Int} {t : List Int} (h : ns.drop i = x :: t) : atI (iv ns) (i : Int) = some (V.int x) := by
  have e : ns[i]? = some x := by
    have := congrArg (fun l => l[0]?) h
    simpa using this
  refine atI_nat ?_
  unfold iv
  rw [List.getElem?_map, e]
  rfl
theorem cut_two (x y : V) (r : List V) : cutV (x :: y :: r) (some 2) none = r := by
  unfold cutV
  have e1 : HT.sIx (x :: y :: r).length 0 (some 2) = 2 := by
    have h := HT.sIx_nat (x :: y :: r).length 0 2
    rw [show ((2 : Nat) : Int) = 2 from rfl] at h
    rw [h, List.length_cons, List.length_cons]
    omega
  have e2 : HT.sIx (x :: y :: r).length (x :: y :: r).length none = (x :: y :: r).length := rfl
  rw [e1, e2]
  show r.take _ = r
  rw [List.take_of_length_le]
  rw [List.length_cons, List.length_cons]
  omega
theorem Done.later {CS CM p l : Addr} {s : Si81.Shelf} {c : Si81.Call} {H H1 : Hp} {Q : VK} (k : Done CS CM p l s c H Q) (e : Same H H1) : Done CS CM p l s c H1 Q := by
  intro H' l' q h1 h2 h3 h4 h5
  refine k H' l' q h1 ?_ (fun b o z n1 n2 => h3 b o (e _ _ z) n1 n2) (e.free h4) h5
  rcases h2 with z | z
  · exact .inl z
  · exact .inr (e.free z)
section
variable {P : Program} {w : World} {K : PySem.W.Frag} {mg : Str → Option Value} {base : Heap} {CM CS CX : Addr}
/-! ### call_end -/
theorem scCallEnd : FnScope ["calls", "place"] ["calls", "place"] (defScope sCallEnd) := ⟨rfl, rfl, rfl, by decide +kernel, rfl, by decide +kernel, by decide +kernel⟩
theorem ok_callEnd {f : Addr} {fd : FuncData} (F : Fun K "call_end" "call_end" sCallEnd f fd) (T : Txt K mg CM CS) : FnOk P w K mg base CX0 1 f fd ["calls", "place"] (spCallEnd K) := by
  refine F.ok scCallEnd (fun vs H Q E h => ?_) (fun cdv A outer s0 H vs Q E hr h => ?_)
  · obtain ⟨a, ns, i, e, c, rfl, _⟩ := h
    rfl
  · obtain ⟨a, ns, i, e, c, rfl, hs, hv, k⟩ := h
    refine ⟨_, pss_cons (ps_if (pt_cmpR op_eq (pe_ix ix_list (pv 0) (pv 1) (fun _ _ => rfl)) (pe_gint T.cBegins rfl) (nomark _)) (pss_one (ps_ret (pe_op op_add (pv 1) pe_int))) pss_nil)
      (pss_cons (ps_if (pt_cmpR op_eq (pe_ix ix_list (pv 0) (pv 1) (fun _ _ => rfl)) (pe_gint T.cMaterial rfl) (nomark _)) (pss_one (ps_ret (pe_op op_add (pv 1) pe_int))) pss_nil)
      (pss_cons (ps_if (pt_cmpR op_in_seq (pe_ix ix_list (pv 0) (pv 1) (fun _ _ => rfl)) (pe_tup (pa_cons (pe_gint T.cCourse rfl) (pa_cons (pe_gint T.cFewest rfl) (pa_cons (pe_gint T.cEven rfl) pa_nil)))) (by rfl))
        (pss_one (ps_ret (pe_op op_add (pe_op op_add (pv 1) pe_int) (pe_ix ix_list (pv 0) (pe_op op_add (pv 1) pe_int) (fun _ _ => rfl))))) pss_nil)
      (pss_cons (ps_if (pt_cmpR op_eq (pe_ix ix_list (pv 0) (pv 1) (fun _ _ => rfl)) (pe_gint T.cOrders rfl) (nomark _)) (pss_one (ps_ret (pe_op op_add (pv 1) pe_int))) pss_nil)
      (pss_one ps_never)))), ?_⟩
    have rowed : ∀ (p : Int) (g : List Nat), (p = 2 ∨ p = 3 ∨ p = 4) → ns.drop i = p :: natI g.length :: (Si81.ints g ++ ns.drop e) → e = i + 2 + g.length → (∀ H' : Hp, Same H H' → Q (.int ((i : Int) + 2 + (g.length : Int))) H') := by
      intro p g _ _ ee H' s'
      have := k H' s'
      rw [ee] at this
      have e2 : (((i + 2 + g.length : Nat)) : Int) = (i : Int) + 2 + (g.length : Int) := by omega
      rw [e2] at this
      exact this
    cases c with
    | begins d =>
      obtain ⟨h1, h2⟩ := hv
      have k1 := k H Same.rfl'
      rw [h2] at k1
      exact ⟨_, rfl, _, rfl, a, _, _, _, rfl, rfl, hs, drop_at h1, rfl, _, rfl, ifEqT rfl ⟨_, rfl, _, _, rfl, rfl, k1⟩⟩
    | material m =>
      obtain ⟨h1, h2⟩ := hv
      have k1 := k H Same.rfl'
      rw [h2] at k1
      exact ⟨_, rfl, _, rfl, a, _, _, _, rfl, rfl, hs, drop_at h1, rfl, _, rfl, ifEqF (by decide) ⟨_, rfl, _, rfl, a, _, _, _, rfl, rfl, hs, drop_at h1, rfl, _, rfl, ifEqT rfl ⟨_, rfl, _, _, rfl, rfl, k1⟩⟩⟩
    | course g =>
      obtain ⟨h1, h2, _⟩ := hv
      have g1 : ns.drop (i + 1) = natI g.length :: (Si81.ints g ++ ns.drop e) := drop_cons h1
      refine ⟨_, rfl, _, rfl, a, _, _, _, rfl, rfl, hs, drop_at h1, rfl, _, rfl, ifEqF (by decide) ⟨_, rfl, _, rfl, a, _, _, _, rfl, rfl, hs, drop_at h1, rfl, _, rfl, ifEqF (by decide) ⟨_, rfl, _, rfl, a, _, _, _, rfl, rfl, hs, drop_at h1, (by show 3 ≤ sizeLine; decide), fun t ht => ?_⟩⟩⟩
      refine ⟨t, _, rfl, .inr (SqT.of upd_same), rfl, rfl, _, rfl, iteT ⟨_, rfl, _, _, rfl, rfl, _, rfl, _, rfl, _, _, rfl, rfl, a, _, _, _, rfl, rfl, (Same.new ht).seq hs, drop_at g1, _, _, rfl, rfl, ?_⟩⟩
      exact rowed 2 g (by decide) h1 h2 _ (Same.new ht)
    | fewest g =>
      obtain ⟨h1, h2, _⟩ := hv
      have g1 : ns.drop (i + 1) = natI g.length :: (Si81.ints g ++ ns.drop e) := drop_cons h1
      refine ⟨_, rfl, _, rfl, a, _, _, _, rfl, rfl, hs, drop_at h1, rfl, _, rfl, ifEqF (by decide) ⟨_, rfl, _, rfl, a, _, _, _, rfl, rfl, hs, drop_at h1, rfl, _, rfl, ifEqF (by decide) ⟨_, rfl, _, rfl, a, _, _, _, rfl, rfl, hs, drop_at h1, (by show 3 ≤ sizeLine; decide), fun t ht => ?_⟩⟩⟩
      refine ⟨t, _, rfl, .inr (SqT.of upd_same), rfl, rfl, _, rfl, iteT ⟨_, rfl, _, _, rfl, rfl, _, rfl, _, rfl, _, _, rfl, rfl, a, _, _, _, rfl, rfl, (Same.new ht).seq hs, drop_at g1, _, _, rfl, rfl, ?_⟩⟩
      exact rowed 3 g (by decide) h1 h2 _ (Same.new ht)
    | even g =>
      obtain ⟨h1, h2, _⟩ := hv
      have g1 : ns.drop (i + 1) = natI g.length :: (Si81.ints g ++ ns.drop e) := drop_cons h1
      refine ⟨_, rfl, _, rfl, a, _, _, _, rfl, rfl, hs, drop_at h1, rfl, _, rfl, ifEqF (by decide) ⟨_, rfl, _, rfl, a, _, _, _, rfl, rfl, hs, drop_at h1, rfl, _, rfl, ifEqF (by decide) ⟨_, rfl, _, rfl, a, _, _, _, rfl, rfl, hs, drop_at h1, (by show 3 ≤ sizeLine; decide), fun t ht => ?_⟩⟩⟩
      refine ⟨t, _, rfl, .inr (SqT.of upd_same), rfl, rfl, _, rfl, iteT ⟨_, rfl, _, _, rfl, rfl, _, rfl, _, rfl, _, _, rfl, rfl, a, _, _, _, rfl, rfl, (Same.new ht).seq hs, drop_at g1, _, _, rfl, rfl, ?_⟩⟩
      exact rowed 4 g (by decide) h1 h2 _ (Same.new ht)
    | orders =>
      obtain ⟨h1, h2⟩ := hv
      refine ⟨_, rfl, _, rfl, a, _, _, _, rfl, rfl, hs, drop_at h1, rfl, _, rfl, ifEqF (by decide) ⟨_, rfl, _, rfl, a, _, _, _, rfl, rfl, hs, drop_at h1, rfl, _, rfl, ifEqF (by decide) ⟨_, rfl, _, rfl, a, _, _, _, rfl, rfl, hs, drop_at h1, (by show 3 ≤ sizeLine; decide), fun t ht => ?_⟩⟩⟩
      have k1 := k _ (Same.new (o := .tup [.int 2, .int 3, .int 4]) ht)
      rw [h2] at k1
      exact ⟨t, _, rfl, .inr (SqT.of upd_same), rfl, rfl, _, rfl, iteF ⟨_, rfl, _, rfl, a, _, _, _, rfl, rfl, (Same.new ht).seq hs, drop_at h1, rfl, _, rfl, ifEqT rfl ⟨_, rfl, _, _, rfl, rfl, k1⟩⟩⟩
/-! ### answer -/
theorem scAnswer : FnScope ["shelf", "call"] ["shelf", "call"] (defScope sAnswer) := ⟨rfl, rfl, rfl, by decide +kernel, rfl, by decide +kernel, by decide +kernel⟩
theorem ok_answer {f : Addr} {fd : FuncData} (F : Fun K "answer" "answer" sAnswer f fd) (T : Txt K mg CM CS) (B : Mth P w K mg base CS "begins" 6 ["self", "drops"] (spBegins CS CM)) (M : Mth P w K mg base CS "material" 6 ["self", "strong", "lasts", "drops"] (spMaterial CS CM))
    (C : Mth P w K mg base CS "course" 6 ["self", "formula"] (spCourse K CS CM)) (W : Mth P w K mg base CS "fewest" 6 ["self", "order"] (spFewest K CS CM)) (V1 : Mth P w K mg base CS "even" 6 ["self", "order"] (spEven K CS CM)) (O : Mth P w K mg base CS "orders" 6 ["self"] (spOrders CS CM)) :
    FnOk P w K mg base CX0 7 f fd ["shelf", "call"] (spAnswer K CS CM) := by
  obtain ⟨fB, fdB, GB, mB, bB⟩ := B
  obtain ⟨fM, fdM, GM, mM, bM⟩ := M
  obtain ⟨fC, fdC, GC, mC, bC⟩ := C
  obtain ⟨fW, fdW, GW, mW, bW⟩ := W
  obtain ⟨fV, fdV, GV, mV, bV⟩ := V1
  obtain ⟨fO, fdO, GO, mO, bO⟩ := O
  refine F.ok scAnswer (fun vs H Q E h => ?_) (fun cdv A outer s0 H vs Q E hr h => ?_)
  · obtain ⟨p, l, q, s, c, rfl, _⟩ := h
    rfl
  · obtain ⟨p, l, q, s, c, rfl, hS, hq, nql, hG, h6, k⟩ := h
    obtain ⟨dx, hp, hL⟩ := id hS
    refine ⟨_, pss_cons (ps_if (pt_cmpR op_eq (pe_ix ix_list (pv 1) pe_int (fun _ _ => rfl)) (pe_gint T.cBegins rfl) (nomark _)) (pss_one (ps_ret (pe_meth (pv 0) T.clS mB GB hr bB .nil pass0 (pa_cons (pe_ix ix_list (pv 1) pe_int (fun _ _ => rfl)) pa_nil)))) pss_nil)
      (pss_cons (ps_if (pt_cmpR op_eq (pe_ix ix_list (pv 1) pe_int (fun _ _ => rfl)) (pe_gint T.cMaterial rfl) (nomark _))
        (pss_one (ps_ret (pe_meth (pv 0) T.clS mM GM hr bM .nil pass0 (pa_cons (pe_ix ix_list (pv 1) pe_int (fun _ _ => rfl)) (pa_cons (pe_ix ix_list (pv 1) pe_int (fun _ _ => rfl)) (pa_cons (pe_ix ix_list (pv 1) pe_int (fun _ _ => rfl)) pa_nil)))))) pss_nil)
      (pss_cons (ps_if (pt_cmpR op_eq (pe_ix ix_list (pv 1) pe_int (fun _ _ => rfl)) (pe_gint T.cOrders rfl) (nomark _)) (pss_one (ps_ret (pe_meth0 (pv 0) T.clS mO GO hr bO .nil pass0))) pss_nil)
      (pss_cons (ps_if (pt_cmpR op_eq (pe_ix ix_list (pv 1) pe_int (fun _ _ => rfl)) (pe_gint T.cCourse rfl) (nomark _)) (pss_one (ps_ret (pe_meth (pv 0) T.clS mC GC hr bC .nil pass0 (pa_cons (pe_slice sl_list (pv 1) (po_some pe_int) po_none) pa_nil)))) pss_nil)
      (pss_cons (ps_if (pt_cmpR op_eq (pe_ix ix_list (pv 1) pe_int (fun _ _ => rfl)) (pe_gint T.cFewest rfl) (nomark _)) (pss_one (ps_ret (pe_meth (pv 0) T.clS mW GW hr bW .nil pass0 (pa_cons (pe_slice sl_list (pv 1) (po_some pe_int) po_none) pa_nil)))) pss_nil)
      (pss_one (ps_ret (pe_meth (pv 0) T.clS mV GV hr bV .nil pass0 (pa_cons (pe_slice sl_list (pv 1) (po_some pe_int) po_none) pa_nil)))))))), ?_⟩
    have cut : ∀ (n : Int) (g : List Nat), cutV (iv (n :: natI g.length :: Si81.ints g)) (some 2) none = nv g := by
      intro n g
      rw [nv_iv]
      exact cut_two _ _ _
    cases c with
    | begins d =>
      exact ⟨_, rfl, q, _, _, _, rfl, rfl, SqL.of hq, atI_head _ _, rfl, _, rfl, ifEqT rfl ⟨_, rfl, p, dx, _, rfl, hp, sf_no _ _ (by decide +kernel) (by decide +kernel), _, rfl, q, _, _, _, rfl, rfl, SqL.of hq, atI_one _ _ _, p, l, s, d, rfl, hS, k⟩⟩
    | material m =>
      exact ⟨_, rfl, q, _, _, _, rfl, rfl, SqL.of hq, atI_head _ _, rfl, _, rfl, ifEqF (by decide) ⟨_, rfl, q, _, _, _, rfl, rfl, SqL.of hq, atI_head _ _, rfl, _, rfl, ifEqT rfl ⟨_, rfl, p, dx, _, rfl, hp, sf_no _ _ (by decide +kernel) (by decide +kernel),
        _, rfl, q, _, _, _, rfl, rfl, SqL.of hq, atI_one _ _ _, _, rfl, q, _, _, _, rfl, rfl, SqL.of hq, atI_two _ _ _ _, _, rfl, q, _, _, _, rfl, rfl, SqL.of hq, atI_three _ _ _ _ _, p, l, s, m, rfl, hS, hG.few, k⟩⟩⟩
    | orders =>
      exact ⟨_, rfl, q, _, _, _, rfl, rfl, SqL.of hq, atI_head _ _, rfl, _, rfl, ifEqF (by decide) ⟨_, rfl, q, _, _, _, rfl, rfl, SqL.of hq, atI_head _ _, rfl, _, rfl, ifEqF (by decide) ⟨_, rfl, q, _, _, _, rfl, rfl, SqL.of hq, atI_head _ _, rfl, _, rfl,
        ifEqT rfl ⟨_, rfl, p, dx, _, rfl, hp, sf_no _ _ (by decide +kernel) (by decide +kernel), p, l, s, rfl, hS, hG, k⟩⟩⟩⟩
    | course g =>
      refine ⟨_, rfl, q, _, _, _, rfl, rfl, SqL.of hq, atI_head _ _, rfl, _, rfl, ifEqF (by decide) ⟨_, rfl, q, _, _, _, rfl, rfl, SqL.of hq, atI_head _ _, rfl, _, rfl, ifEqF (by decide) ⟨_, rfl, q, _, _, _, rfl, rfl, SqL.of hq, atI_head _ _, rfl, _, rfl,
        ifEqF (by decide) ⟨_, rfl, q, _, _, _, rfl, rfl, SqL.of hq, atI_head _ _, rfl, _, rfl, ifEqT rfl ⟨_, rfl, p, dx, _, rfl, hp, sf_no _ _ (by decide +kernel) (by decide +kernel), _, rfl, _, rfl, q, _, rfl, SqL.of hq, fun z hz => ?_⟩⟩⟩⟩⟩
      exact ⟨p, l, z, s, g, rfl, hS.same (Same.new hz), SqL.of (by rw [upd_same]; exact congrArg (fun x => some (HO.lst x)) (cut 2 g)), hG, k.later (Same.new hz)⟩
    | fewest g =>
      refine ⟨_, rfl, q, _, _, _, rfl, rfl, SqL.of hq, atI_head _ _, rfl, _, rfl, ifEqF (by decide) ⟨_, rfl, q, _, _, _, rfl, rfl, SqL.of hq, atI_head _ _, rfl, _, rfl, ifEqF (by decide) ⟨_, rfl, q, _, _, _, rfl, rfl, SqL.of hq, atI_head _ _, rfl, _, rfl,
        ifEqF (by decide) ⟨_, rfl, q, _, _, _, rfl, rfl, SqL.of hq, atI_head _ _, rfl, _, rfl, ifEqF (by decide) ⟨_, rfl, q, _, _, _, rfl, rfl, SqL.of hq, atI_head _ _, rfl, _, rfl, ifEqT rfl ⟨_, rfl, p, dx, _, rfl, hp, sf_no _ _ (by decide +kernel) (by decide +kernel), _, rfl, _, rfl, q, _, rfl, SqL.of hq, fun z hz => ?_⟩⟩⟩⟩⟩⟩
      exact ⟨p, l, z, s, g, rfl, hS.same (Same.new hz), SqL.of (by rw [upd_same]; exact congrArg (fun x => some (HO.lst x)) (cut 3 g)), h6, hG, k.later (Same.new hz)⟩
    | even g =>
      refine ⟨_, rfl, q, _, _, _, rfl, rfl, SqL.of hq, atI_head _ _, rfl, _, rfl, ifEqF (by decide) ⟨_, rfl, q, _, _, _, rfl, rfl, SqL.of hq, atI_head _ _, rfl, _, rfl, ifEqF (by decide) ⟨_, rfl, q, _, _, _, rfl, rfl, SqL.of hq, atI_head _ _, rfl, _, rfl,
        ifEqF (by decide) ⟨_, rfl, q, _, _, _, rfl, rfl, SqL.of hq, atI_head _ _, rfl, _, rfl, ifEqF (by decide) ⟨_, rfl, q, _, _, _, rfl, rfl, SqL.of hq, atI_head _ _, rfl, _, rfl, ifEqF (by decide) ⟨_, rfl, p, dx, _, rfl, hp, sf_no _ _ (by decide +kernel) (by decide +kernel), _, rfl, _, rfl, q, _, rfl, SqL.of hq, fun z hz => ?_⟩⟩⟩⟩⟩⟩
      exact ⟨p, l, z, s, g, rfl, hS.same (Same.new hz), SqL.of (by rw [upd_same]; exact congrArg (fun x => some (HO.lst x)) (cut 4 g)), h6, hG, k.later (Same.new hz)⟩
end
end Sm
end
section
set_option Elab.async false
set_option linter.all false
set_option maxRecDepth 100000
set_option maxHeartbeats 4000000
namespace Sm
open PySem PySem.Spec L2
open PyProof.Rows hiding St
theorem Mak.mono {P : Program} {w : World} {K : PySem.W.Frag} {mg : Str → Option Value} {base : Heap} {C : Addr} {j k : Nat} {ps : List Str} {sp : Sp} (h : Mak P w K mg base C j ps sp) (e : j ≤ k) : Mak P w K mg base C k ps sp :=
  let ⟨f, fd, G, r⟩ := h; ⟨f, fd, G.mono e, r⟩
theorem FrzSq.only {K : PySem.W.Frag} {H : Hp} {a : Addr} {xs : List V} (hO : OnlyF H) (h : SqL K H a xs) : FrzSq K H a xs := by
  intro H' k
  rcases h with (h | ⟨o, h⟩) | h
  · rcases hO a with z | ⟨o, u, z⟩
    · rw [z] at h; cases h
    · rw [h] at z
      exact .inl (.inl (by rw [Option.some.inj z]; exact k a o u (h.trans z)))
  · exact .inl (.inr ⟨o, k a o _ h⟩)
  · exact .inr h
theorem all_mk {P : Program} {w : World} {K : PySem.W.Frag} {h : Heap} {mg : Str → Option Value} {fa CM CX CS f_mi f_xi f_si f_be f_ma f_co f_mb f_fe f_ev f_od f_mw f_mx f_fo f_iw f_im f_ov f_tu f_le f_st f_re f_tf f_te f_of f_me f_to f_an f_ce f_aw : Addr} (X : K.In h) (G : h.Ns mainGlobals mg) (hfa : mg "answers" = some (.ref fa))
    {od_mi an_mi od_xi an_xi od_si an_si od_be an_be od_ma an_ma od_co an_co od_mb an_mb od_fe an_fe od_ev an_ev od_od an_od od_mw an_mw od_mx an_mx od_fo an_fo od_iw an_iw od_im an_im od_ov an_ov od_tu an_tu od_le an_le od_st an_st od_re an_re od_tf an_tf od_te an_te od_of an_of od_me an_me od_to an_to od_an an_an od_ce an_ce od_aw an_aw : Option Addr} {sl_mi sl_xi sl_si sl_be sl_ma sl_co sl_mb sl_fe sl_ev sl_od sl_mw sl_mx sl_fo sl_iw sl_im sl_ov sl_tu sl_le sl_st sl_re sl_tf sl_te sl_of sl_me sl_to sl_an sl_ce sl_aw : Array (Option Value)} {oc_mi kV_mi dc_mi pm_mi cd_mi ct_mi oc_xi kV_xi dc_xi pm_xi cd_xi ct_xi oc_si kV_si dc_si pm_si cd_si ct_si oc_be kV_be dc_be pm_be cd_be ct_be oc_ma kV_ma dc_ma pm_ma cd_ma ct_ma oc_co kV_co dc_co pm_co cd_co ct_co oc_mb kV_mb dc_mb pm_mb cd_mb ct_mb oc_fe kV_fe dc_fe pm_fe cd_fe ct_fe oc_ev kV_ev dc_ev pm_ev cd_ev ct_ev oc_od kV_od dc_od pm_od cd_od ct_od oc_mw kV_mw dc_mw pm_mw cd_mw ct_mw oc_mx kV_mx dc_mx pm_mx cd_mx ct_mx oc_fo kV_fo dc_fo pm_fo cd_fo ct_fo oc_iw kV_iw dc_iw pm_iw cd_iw ct_iw oc_im kV_im dc_im pm_im cd_im ct_im oc_ov kV_ov dc_ov pm_ov cd_ov ct_ov oc_tu kV_tu dc_tu pm_tu cd_tu ct_tu oc_le kV_le dc_le pm_le cd_le ct_le oc_st kV_st dc_st pm_st cd_st ct_st oc_re kV_re dc_re pm_re cd_re ct_re oc_tf kV_tf dc_tf pm_tf cd_tf ct_tf oc_te kV_te dc_te pm_te cd_te ct_te oc_of kV_of dc_of pm_of cd_of ct_of oc_me kV_me dc_me pm_me cd_me ct_me oc_to kV_to dc_to pm_to cd_to ct_to oc_an kV_an dc_an pm_an cd_an ct_an oc_ce kV_ce dc_ce pm_ce cd_ce ct_ce oc_aw kV_aw dc_aw pm_aw cd_aw ct_aw : Value} {t_cBegins t_cMaterial t_cCourse t_cFewest t_cEven t_cOrders t_cMostMaterials t_cMostStrong t_cMostLasts t_cMostOne t_cMostAll t_cDrops t_cNotAsTold t_cMayNot t_cNoRoom t_cNotThere t_cTwice t_cNoFormula : Tok}
    (nM : PySem.W.nsIn K mainGlobals "Material" = some (some (.ref CM)))
    (nX : PySem.W.nsIn K mainGlobals "Mixture" = some (some (.ref CX)))
    (nS : PySem.W.nsIn K mainGlobals "Shelf" = some (some (.ref CS)))
    (a_mi : PySem.W.findIn K (.ref CM) "__init__" = some (some (.ref f_mi)))
    (i_mi : PySem.W.isFn K (.ref f_mi) = true)
    (l_mi : K.lookup f_mi = some ⟨oc_mi, od_mi, .func (PySem.W.fnOf "__init__" "Material.__init__" (defArgs sMatInit) (defBody sMatInit) (defScope sMatInit) .none kV_mi dc_mi pm_mi an_mi cd_mi ct_mi), sl_mi⟩)
    (c_mi : PySem.W.codeIn K cd_mi "Material.__init__" = true)
    (k_mi : PySem.W.keepIn K (.ref f_mi) = true)
    (a_xi : PySem.W.findIn K (.ref CX) "__init__" = some (some (.ref f_xi)))
    (i_xi : PySem.W.isFn K (.ref f_xi) = true)
    (l_xi : K.lookup f_xi = some ⟨oc_xi, od_xi, .func (PySem.W.fnOf "__init__" "Mixture.__init__" (defArgs sMixInit) (defBody sMixInit) (defScope sMixInit) .none kV_xi dc_xi pm_xi an_xi cd_xi ct_xi), sl_xi⟩)
    (c_xi : PySem.W.codeIn K cd_xi "Mixture.__init__" = true)
    (k_xi : PySem.W.keepIn K (.ref f_xi) = true)
    (a_si : PySem.W.findIn K (.ref CS) "__init__" = some (some (.ref f_si)))
    (i_si : PySem.W.isFn K (.ref f_si) = true)
    (l_si : K.lookup f_si = some ⟨oc_si, od_si, .func (PySem.W.fnOf "__init__" "Shelf.__init__" (defArgs sShInit) (defBody sShInit) (defScope sShInit) .none kV_si dc_si pm_si an_si cd_si ct_si), sl_si⟩)
    (c_si : PySem.W.codeIn K cd_si "Shelf.__init__" = true)
    (k_si : PySem.W.keepIn K (.ref f_si) = true)
    (a_be : PySem.W.findIn K (.ref CS) "begins" = some (some (.ref f_be)))
    (i_be : PySem.W.isFn K (.ref f_be) = true)
    (l_be : K.lookup f_be = some ⟨oc_be, od_be, .func (PySem.W.fnOf "begins" "Shelf.begins" (defArgs sBegins) (defBody sBegins) (defScope sBegins) .none kV_be dc_be pm_be an_be cd_be ct_be), sl_be⟩)
    (c_be : PySem.W.codeIn K cd_be "Shelf.begins" = true)
    (k_be : PySem.W.keepIn K (.ref f_be) = true)
    (a_ma : PySem.W.findIn K (.ref CS) "material" = some (some (.ref f_ma)))
    (i_ma : PySem.W.isFn K (.ref f_ma) = true)
    (l_ma : K.lookup f_ma = some ⟨oc_ma, od_ma, .func (PySem.W.fnOf "material" "Shelf.material" (defArgs sMaterial) (defBody sMaterial) (defScope sMaterial) .none kV_ma dc_ma pm_ma an_ma cd_ma ct_ma), sl_ma⟩)
    (c_ma : PySem.W.codeIn K cd_ma "Shelf.material" = true)
    (k_ma : PySem.W.keepIn K (.ref f_ma) = true)
    (a_co : PySem.W.findIn K (.ref CS) "course" = some (some (.ref f_co)))
    (i_co : PySem.W.isFn K (.ref f_co) = true)
    (l_co : K.lookup f_co = some ⟨oc_co, od_co, .func (PySem.W.fnOf "course" "Shelf.course" (defArgs sCourse) (defBody sCourse) (defScope sCourse) .none kV_co dc_co pm_co an_co cd_co ct_co), sl_co⟩)
    (c_co : PySem.W.codeIn K cd_co "Shelf.course" = true)
    (k_co : PySem.W.keepIn K (.ref f_co) = true)
    (a_mb : PySem.W.findIn K (.ref CS) "may_be" = some (some (.ref f_mb)))
    (i_mb : PySem.W.isFn K (.ref f_mb) = true)
    (l_mb : K.lookup f_mb = some ⟨oc_mb, od_mb, .func (PySem.W.fnOf "may_be" "Shelf.may_be" (defArgs sMayBe) (defBody sMayBe) (defScope sMayBe) .none kV_mb dc_mb pm_mb an_mb cd_mb ct_mb), sl_mb⟩)
    (c_mb : PySem.W.codeIn K cd_mb "Shelf.may_be" = true)
    (k_mb : PySem.W.keepIn K (.ref f_mb) = true)
    (a_fe : PySem.W.findIn K (.ref CS) "fewest" = some (some (.ref f_fe)))
    (i_fe : PySem.W.isFn K (.ref f_fe) = true)
    (l_fe : K.lookup f_fe = some ⟨oc_fe, od_fe, .func (PySem.W.fnOf "fewest" "Shelf.fewest" (defArgs sFewest) (defBody sFewest) (defScope sFewest) .none kV_fe dc_fe pm_fe an_fe cd_fe ct_fe), sl_fe⟩)
    (c_fe : PySem.W.codeIn K cd_fe "Shelf.fewest" = true)
    (k_fe : PySem.W.keepIn K (.ref f_fe) = true)
    (a_ev : PySem.W.findIn K (.ref CS) "even" = some (some (.ref f_ev)))
    (i_ev : PySem.W.isFn K (.ref f_ev) = true)
    (l_ev : K.lookup f_ev = some ⟨oc_ev, od_ev, .func (PySem.W.fnOf "even" "Shelf.even" (defArgs sEven) (defBody sEven) (defScope sEven) .none kV_ev dc_ev pm_ev an_ev cd_ev ct_ev), sl_ev⟩)
    (c_ev : PySem.W.codeIn K cd_ev "Shelf.even" = true)
    (k_ev : PySem.W.keepIn K (.ref f_ev) = true)
    (a_od : PySem.W.findIn K (.ref CS) "orders" = some (some (.ref f_od)))
    (i_od : PySem.W.isFn K (.ref f_od) = true)
    (l_od : K.lookup f_od = some ⟨oc_od, od_od, .func (PySem.W.fnOf "orders" "Shelf.orders" (defArgs sOrders) (defBody sOrders) (defScope sOrders) .none kV_od dc_od pm_od an_od cd_od ct_od), sl_od⟩)
    (c_od : PySem.W.codeIn K cd_od "Shelf.orders" = true)
    (k_od : PySem.W.keepIn K (.ref f_od) = true)
    (a_mw : PySem.W.findIn K (.ref CS) "mixtures_with" = some (some (.ref f_mw)))
    (i_mw : PySem.W.isFn K (.ref f_mw) = true)
    (l_mw : K.lookup f_mw = some ⟨oc_mw, od_mw, .func (PySem.W.fnOf "mixtures_with" "Shelf.mixtures_with" (defArgs sMixWith) (defBody sMixWith) (defScope sMixWith) .none kV_mw dc_mw pm_mw an_mw cd_mw ct_mw), sl_mw⟩)
    (c_mw : PySem.W.codeIn K cd_mw "Shelf.mixtures_with" = true)
    (k_mw : PySem.W.keepIn K (.ref f_mw) = true)
    (a_mx : PySem.W.findIn K (.ref CS) "mixtures" = some (some (.ref f_mx)))
    (i_mx : PySem.W.isFn K (.ref f_mx) = true)
    (l_mx : K.lookup f_mx = some ⟨oc_mx, od_mx, .func (PySem.W.fnOf "mixtures" "Shelf.mixtures" (defArgs sMixtures) (defBody sMixtures) (defScope sMixtures) .none kV_mx dc_mx pm_mx an_mx cd_mx ct_mx), sl_mx⟩)
    (c_mx : PySem.W.codeIn K cd_mx "Shelf.mixtures" = true)
    (k_mx : PySem.W.keepIn K (.ref f_mx) = true)
    (a_fo : PySem.W.findIn K (.ref CS) "formulas" = some (some (.ref f_fo)))
    (i_fo : PySem.W.isFn K (.ref f_fo) = true)
    (l_fo : K.lookup f_fo = some ⟨oc_fo, od_fo, .func (PySem.W.fnOf "formulas" "Shelf.formulas" (defArgs sFormulas) (defBody sFormulas) (defScope sFormulas) .none kV_fo dc_fo pm_fo an_fo cd_fo ct_fo), sl_fo⟩)
    (c_fo : PySem.W.codeIn K cd_fo "Shelf.formulas" = true)
    (k_fo : PySem.W.keepIn K (.ref f_fo) = true)
    (a_iw : PySem.W.nsIn K mainGlobals "is_within" = some (some (.ref f_iw)))
    (l_iw : K.lookup f_iw = some ⟨oc_iw, od_iw, .func (PySem.W.fnOf "is_within" "is_within" (defArgs sIsWithin) (defBody sIsWithin) (defScope sIsWithin) .none kV_iw dc_iw pm_iw an_iw cd_iw ct_iw), sl_iw⟩)
    (c_iw : PySem.W.codeIn K cd_iw "is_within" = true)
    (k_iw : PySem.W.keepIn K (.ref f_iw) = true)
    (a_im : PySem.W.nsIn K mainGlobals "is_material" = some (some (.ref f_im)))
    (l_im : K.lookup f_im = some ⟨oc_im, od_im, .func (PySem.W.fnOf "is_material" "is_material" (defArgs sIsMaterial) (defBody sIsMaterial) (defScope sIsMaterial) .none kV_im dc_im pm_im an_im cd_im ct_im), sl_im⟩)
    (c_im : PySem.W.codeIn K cd_im "is_material" = true)
    (k_im : PySem.W.keepIn K (.ref f_im) = true)
    (a_ov : PySem.W.nsIn K mainGlobals "over_at" = some (some (.ref f_ov)))
    (l_ov : K.lookup f_ov = some ⟨oc_ov, od_ov, .func (PySem.W.fnOf "over_at" "over_at" (defArgs sOverAt) (defBody sOverAt) (defScope sOverAt) .none kV_ov dc_ov pm_ov an_ov cd_ov ct_ov), sl_ov⟩)
    (c_ov : PySem.W.codeIn K cd_ov "over_at" = true)
    (k_ov : PySem.W.keepIn K (.ref f_ov) = true)
    (a_tu : PySem.W.nsIn K mainGlobals "turns" = some (some (.ref f_tu)))
    (l_tu : K.lookup f_tu = some ⟨oc_tu, od_tu, .func (PySem.W.fnOf "turns" "turns" (defArgs sTurns) (defBody sTurns) (defScope sTurns) .none kV_tu dc_tu pm_tu an_tu cd_tu ct_tu), sl_tu⟩)
    (c_tu : PySem.W.codeIn K cd_tu "turns" = true)
    (k_tu : PySem.W.keepIn K (.ref f_tu) = true)
    (a_le : PySem.W.nsIn K mainGlobals "leader" = some (some (.ref f_le)))
    (l_le : K.lookup f_le = some ⟨oc_le, od_le, .func (PySem.W.fnOf "leader" "leader" (defArgs sLeader) (defBody sLeader) (defScope sLeader) .none kV_le dc_le pm_le an_le cd_le ct_le), sl_le⟩)
    (c_le : PySem.W.codeIn K cd_le "leader" = true)
    (k_le : PySem.W.keepIn K (.ref f_le) = true)
    (a_st : PySem.W.nsIn K mainGlobals "strength_by_lasting" = some (some (.ref f_st)))
    (l_st : K.lookup f_st = some ⟨oc_st, od_st, .func (PySem.W.fnOf "strength_by_lasting" "strength_by_lasting" (defArgs sStrength) (defBody sStrength) (defScope sStrength) .none kV_st dc_st pm_st an_st cd_st ct_st), sl_st⟩)
    (c_st : PySem.W.codeIn K cd_st "strength_by_lasting" = true)
    (k_st : PySem.W.keepIn K (.ref f_st) = true)
    (a_re : PySem.W.nsIn K mainGlobals "order_refusal" = some (some (.ref f_re)))
    (l_re : K.lookup f_re = some ⟨oc_re, od_re, .func (PySem.W.fnOf "order_refusal" "order_refusal" (defArgs sRefusal) (defBody sRefusal) (defScope sRefusal) .none kV_re dc_re pm_re an_re cd_re ct_re), sl_re⟩)
    (c_re : PySem.W.codeIn K cd_re "order_refusal" = true)
    (k_re : PySem.W.keepIn K (.ref f_re) = true)
    (a_tf : PySem.W.nsIn K mainGlobals "told_fewest" = some (some (.ref f_tf)))
    (l_tf : K.lookup f_tf = some ⟨oc_tf, od_tf, .func (PySem.W.fnOf "told_fewest" "told_fewest" (defArgs sToldFewest) (defBody sToldFewest) (defScope sToldFewest) .none kV_tf dc_tf pm_tf an_tf cd_tf ct_tf), sl_tf⟩)
    (c_tf : PySem.W.codeIn K cd_tf "told_fewest" = true)
    (k_tf : PySem.W.keepIn K (.ref f_tf) = true)
    (a_te : PySem.W.nsIn K mainGlobals "told_even" = some (some (.ref f_te)))
    (l_te : K.lookup f_te = some ⟨oc_te, od_te, .func (PySem.W.fnOf "told_even" "told_even" (defArgs sToldEven) (defBody sToldEven) (defScope sToldEven) .none kV_te dc_te pm_te an_te cd_te ct_te), sl_te⟩)
    (c_te : PySem.W.codeIn K cd_te "told_even" = true)
    (k_te : PySem.W.keepIn K (.ref f_te) = true)
    (a_of : PySem.W.nsIn K mainGlobals "of_fewest_drops" = some (some (.ref f_of)))
    (l_of : K.lookup f_of = some ⟨oc_of, od_of, .func (PySem.W.fnOf "of_fewest_drops" "of_fewest_drops" (defArgs sOfFewest) (defBody sOfFewest) (defScope sOfFewest) .none kV_of dc_of pm_of an_of cd_of ct_of), sl_of⟩)
    (c_of : PySem.W.codeIn K cd_of "of_fewest_drops" = true)
    (k_of : PySem.W.keepIn K (.ref f_of) = true)
    (a_me : PySem.W.nsIn K mainGlobals "most_even" = some (some (.ref f_me)))
    (l_me : K.lookup f_me = some ⟨oc_me, od_me, .func (PySem.W.fnOf "most_even" "most_even" (defArgs sMostEven) (defBody sMostEven) (defScope sMostEven) .none kV_me dc_me pm_me an_me cd_me ct_me), sl_me⟩)
    (c_me : PySem.W.codeIn K cd_me "most_even" = true)
    (k_me : PySem.W.keepIn K (.ref f_me) = true)
    (a_to : PySem.W.nsIn K mainGlobals "told_orders" = some (some (.ref f_to)))
    (l_to : K.lookup f_to = some ⟨oc_to, od_to, .func (PySem.W.fnOf "told_orders" "told_orders" (defArgs sToldOrders) (defBody sToldOrders) (defScope sToldOrders) .none kV_to dc_to pm_to an_to cd_to ct_to), sl_to⟩)
    (c_to : PySem.W.codeIn K cd_to "told_orders" = true)
    (k_to : PySem.W.keepIn K (.ref f_to) = true)
    (a_an : PySem.W.nsIn K mainGlobals "answers" = some (some (.ref f_an)))
    (l_an : K.lookup f_an = some ⟨oc_an, od_an, .func (PySem.W.fnOf "answers" "answers" (defArgs sAnswers) (defBody sAnswers) (defScope sAnswers) .none kV_an dc_an pm_an an_an cd_an ct_an), sl_an⟩)
    (c_an : PySem.W.codeIn K cd_an "answers" = true)
    (k_an : PySem.W.keepIn K (.ref f_an) = true)
    (a_ce : PySem.W.nsIn K mainGlobals "call_end" = some (some (.ref f_ce)))
    (l_ce : K.lookup f_ce = some ⟨oc_ce, od_ce, .func (PySem.W.fnOf "call_end" "call_end" (defArgs sCallEnd) (defBody sCallEnd) (defScope sCallEnd) .none kV_ce dc_ce pm_ce an_ce cd_ce ct_ce), sl_ce⟩)
    (c_ce : PySem.W.codeIn K cd_ce "call_end" = true)
    (k_ce : PySem.W.keepIn K (.ref f_ce) = true)
    (a_aw : PySem.W.nsIn K mainGlobals "answer" = some (some (.ref f_aw)))
    (l_aw : K.lookup f_aw = some ⟨oc_aw, od_aw, .func (PySem.W.fnOf "answer" "answer" (defArgs sAnswer) (defBody sAnswer) (defScope sAnswer) .none kV_aw dc_aw pm_aw an_aw cd_aw ct_aw), sl_aw⟩)
    (c_aw : PySem.W.codeIn K cd_aw "answer" = true)
    (k_aw : PySem.W.keepIn K (.ref f_aw) = true)
    (pgM : PySem.W.plainGet K CM Str.empty = true)
    (hdM : PySem.W.hasDictIn K CM = true)
    (poM : PySem.W.plainOver K CM = true)
    (saM : PySem.W.findIn K (.ref CM) "__setattr__" = some (some (.builtin "object.__setattr__")))
    (mkM : PySem.W.makesIn K CM = true)
    (kcM : PySem.W.keepIn K (.ref CM) = true)
    (pgX : PySem.W.plainGet K CX Str.empty = true)
    (hdX : PySem.W.hasDictIn K CX = true)
    (poX : PySem.W.plainOver K CX = true)
    (saX : PySem.W.findIn K (.ref CX) "__setattr__" = some (some (.builtin "object.__setattr__")))
    (mkX : PySem.W.makesIn K CX = true)
    (kcX : PySem.W.keepIn K (.ref CX) = true)
    (pgS : PySem.W.plainGet K CS Str.empty = true)
    (hdS : PySem.W.hasDictIn K CS = true)
    (poS : PySem.W.plainOver K CS = true)
    (saS : PySem.W.findIn K (.ref CS) "__setattr__" = some (some (.builtin "object.__setattr__")))
    (mkS : PySem.W.makesIn K CS = true)
    (kcS : PySem.W.keepIn K (.ref CS) = true)
    (noM_strong : PySem.W.findIn K (.ref CM) "strong" = some none)
    (noM_lasts : PySem.W.findIn K (.ref CM) "lasts" = some none)
    (noM_most : PySem.W.findIn K (.ref CM) "most" = some none)
    (noS_most_drops : PySem.W.findIn K (.ref CS) "most_drops" = some none)
    (noS_materials : PySem.W.findIn K (.ref CS) "materials" = some none)
    (noX_formula : PySem.W.findIn K (.ref CX) "formula" = some none)
    (noX_drops : PySem.W.findIn K (.ref CX) "drops" = some none)
    (noX_order : PySem.W.findIn K (.ref CX) "order" = some none)
    (noX_evenness : PySem.W.findIn K (.ref CX) "evenness" = some none)
    (g_cBegins : PySem.W.nsIn K mainGlobals "BEGINS" = some (some (.int 0 t_cBegins)))
    (g_cMaterial : PySem.W.nsIn K mainGlobals "MATERIAL" = some (some (.int 1 t_cMaterial)))
    (g_cCourse : PySem.W.nsIn K mainGlobals "COURSE" = some (some (.int 2 t_cCourse)))
    (g_cFewest : PySem.W.nsIn K mainGlobals "FEWEST" = some (some (.int 3 t_cFewest)))
    (g_cEven : PySem.W.nsIn K mainGlobals "EVEN" = some (some (.int 4 t_cEven)))
    (g_cOrders : PySem.W.nsIn K mainGlobals "ORDERS" = some (some (.int 5 t_cOrders)))
    (g_cMostMaterials : PySem.W.nsIn K mainGlobals "MOST_MATERIALS" = some (some (.int 4 t_cMostMaterials)))
    (g_cMostStrong : PySem.W.nsIn K mainGlobals "MOST_STRONG" = some (some (.int 100 t_cMostStrong)))
    (g_cMostLasts : PySem.W.nsIn K mainGlobals "MOST_LASTS" = some (some (.int 24 t_cMostLasts)))
    (g_cMostOne : PySem.W.nsIn K mainGlobals "MOST_DROPS_OF_ONE" = some (some (.int 5 t_cMostOne)))
    (g_cMostAll : PySem.W.nsIn K mainGlobals "MOST_DROPS_OF_ALL" = some (some (.int 20 t_cMostAll)))
    (g_cDrops : PySem.W.nsIn K mainGlobals "DROPS_AT_THE_BEGINNING" = some (some (.int 1 t_cDrops)))
    (g_cNotAsTold : PySem.W.nsIn K mainGlobals "NOT_AS_TOLD" = some (some (.int (-1) t_cNotAsTold)))
    (g_cMayNot : PySem.W.nsIn K mainGlobals "MAY_NOT_BE" = some (some (.int (-4) t_cMayNot)))
    (g_cNoRoom : PySem.W.nsIn K mainGlobals "NO_ROOM" = some (some (.int (-5) t_cNoRoom)))
    (g_cNotThere : PySem.W.nsIn K mainGlobals "NOT_THERE" = some (some (.int (-1) t_cNotThere)))
    (g_cTwice : PySem.W.nsIn K mainGlobals "TOLD_TWICE" = some (some (.int (-4) t_cTwice)))
    (g_cNoFormula : PySem.W.nsIn K mainGlobals "NO_FORMULA" = some (some (.int (-6) t_cNoFormula)))
    (z_bLen : PySem.W.nsIn K mainGlobals "len" = some none)
    (z_bMax : PySem.W.nsIn K mainGlobals "max" = some none)
    (z_bMin : PySem.W.nsIn K mainGlobals "min" = some none)
    (z_bAny : PySem.W.nsIn K mainGlobals "any" = some none)
    (z_bSorted : PySem.W.nsIn K mainGlobals "sorted" = some none)
    (z_bZip : PySem.W.nsIn K mainGlobals "zip" = some none)
    (z_bSum : PySem.W.nsIn K mainGlobals "sum" = some none)
    (z_bRange : PySem.W.nsIn K mainGlobals "range" = some none)
    (z_bEnum : PySem.W.nsIn K mainGlobals "enumerate" = some none) :
    ∃ fd : FuncData, (∀ (s : Shared) (us : List Value), us.length = (["calls"] : List Str).length → BindsTo s fd ⟨us, []⟩ ((["calls"] : List Str).zip us)) ∧ ∀ base : Heap, K.In base → base.Ns mainGlobals mg → FnOk P w K mg base CX0 8 fa fd ["calls"] (spAnswers K) := by
  have e := hfa.symm.trans (PySem.W.mg_of X G a_an)
  cases e
  have T : Txt K mg CM CS := { clM := ⟨pgM, hdM, poM, saM⟩, clS := ⟨pgS, hdS, poS, saS⟩, mStrong := noM_strong, mLasts := noM_lasts, mMost := noM_most, sDrops := noS_most_drops, sMats := noS_materials, mgM := PySem.W.mg_of X G nM, mgS := PySem.W.mg_of X G nS, cBegins := ⟨t_cBegins, PySem.W.mg_of X G g_cBegins⟩, cMaterial := ⟨t_cMaterial, PySem.W.mg_of X G g_cMaterial⟩, cCourse := ⟨t_cCourse, PySem.W.mg_of X G g_cCourse⟩, cFewest := ⟨t_cFewest, PySem.W.mg_of X G g_cFewest⟩, cEven := ⟨t_cEven, PySem.W.mg_of X G g_cEven⟩, cOrders := ⟨t_cOrders, PySem.W.mg_of X G g_cOrders⟩, cMostMaterials := ⟨t_cMostMaterials, PySem.W.mg_of X G g_cMostMaterials⟩, cMostStrong := ⟨t_cMostStrong, PySem.W.mg_of X G g_cMostStrong⟩, cMostLasts := ⟨t_cMostLasts, PySem.W.mg_of X G g_cMostLasts⟩, cMostOne := ⟨t_cMostOne, PySem.W.mg_of X G g_cMostOne⟩, cMostAll := ⟨t_cMostAll, PySem.W.mg_of X G g_cMostAll⟩, cDrops := ⟨t_cDrops, PySem.W.mg_of X G g_cDrops⟩, cNotAsTold := ⟨t_cNotAsTold, PySem.W.mg_of X G g_cNotAsTold⟩, cMayNot := ⟨t_cMayNot, PySem.W.mg_of X G g_cMayNot⟩, cNoRoom := ⟨t_cNoRoom, PySem.W.mg_of X G g_cNoRoom⟩, cNotThere := ⟨t_cNotThere, PySem.W.mg_of X G g_cNotThere⟩, cTwice := ⟨t_cTwice, PySem.W.mg_of X G g_cTwice⟩, cNoFormula := ⟨t_cNoFormula, PySem.W.mg_of X G g_cNoFormula⟩, bLen := PySem.W.mg_none_of X G z_bLen, bMax := PySem.W.mg_none_of X G z_bMax, bMin := PySem.W.mg_none_of X G z_bMin, bAny := PySem.W.mg_none_of X G z_bAny, bSorted := PySem.W.mg_none_of X G z_bSorted, bZip := PySem.W.mg_none_of X G z_bZip, bSum := PySem.W.mg_none_of X G z_bSum, bRange := PySem.W.mg_none_of X G z_bRange, bEnum := PySem.W.mg_none_of X G z_bEnum }
  have TX : TxtX K mg CX := ⟨⟨pgX, hdX, poX, saX⟩, noX_formula, noX_drops, noX_order, noX_evenness, PySem.W.mg_of X G nX⟩
  have F_mi := fun_mk (st := sMatInit) l_mi c_mi k_mi
  have b_mi := F_mi.binds (ps := ["self", "strong", "lasts", "most"]) fun _ _ _ _ _ _ us hl => match us, hl with | [_, _, _, _], _ => rfl
  have F_xi := fun_mk (st := sMixInit) l_xi c_xi k_xi
  have b_xi := F_xi.binds (ps := ["self", "formula", "led"]) fun _ _ _ _ _ _ us hl => match us, hl with | [_, _, _], _ => rfl
  have F_si := fun_mk (st := sShInit) l_si c_si k_si
  have b_si := F_si.binds (ps := ["self"]) fun _ _ _ _ _ _ us hl => match us, hl with | [_], _ => rfl
  have F_be := fun_mk (st := sBegins) l_be c_be k_be
  have b_be := F_be.binds (ps := ["self", "drops"]) fun _ _ _ _ _ _ us hl => match us, hl with | [_, _], _ => rfl
  have F_ma := fun_mk (st := sMaterial) l_ma c_ma k_ma
  have b_ma := F_ma.binds (ps := ["self", "strong", "lasts", "drops"]) fun _ _ _ _ _ _ us hl => match us, hl with | [_, _, _, _], _ => rfl
  have F_co := fun_mk (st := sCourse) l_co c_co k_co
  have b_co := F_co.binds (ps := ["self", "formula"]) fun _ _ _ _ _ _ us hl => match us, hl with | [_, _], _ => rfl
  have F_mb := fun_mk (st := sMayBe) l_mb c_mb k_mb
  have b_mb := F_mb.binds (ps := ["self", "formula"]) fun _ _ _ _ _ _ us hl => match us, hl with | [_, _], _ => rfl
  have F_fe := fun_mk (st := sFewest) l_fe c_fe k_fe
  have b_fe := F_fe.binds (ps := ["self", "order"]) fun _ _ _ _ _ _ us hl => match us, hl with | [_, _], _ => rfl
  have F_ev := fun_mk (st := sEven) l_ev c_ev k_ev
  have b_ev := F_ev.binds (ps := ["self", "order"]) fun _ _ _ _ _ _ us hl => match us, hl with | [_, _], _ => rfl
  have F_od := fun_mk (st := sOrders) l_od c_od k_od
  have b_od := F_od.binds (ps := ["self"]) fun _ _ _ _ _ _ us hl => match us, hl with | [_], _ => rfl
  have F_mw := fun_mk (st := sMixWith) l_mw c_mw k_mw
  have b_mw := F_mw.binds (ps := ["self", "order"]) fun _ _ _ _ _ _ us hl => match us, hl with | [_, _], _ => rfl
  have F_mx := fun_mk (st := sMixtures) l_mx c_mx k_mx
  have b_mx := F_mx.binds (ps := ["self"]) fun _ _ _ _ _ _ us hl => match us, hl with | [_], _ => rfl
  have F_fo := fun_mk (st := sFormulas) l_fo c_fo k_fo
  have b_fo := F_fo.binds (ps := ["self"]) fun _ _ _ _ _ _ us hl => match us, hl with | [_], _ => rfl
  have F_iw := fun_mk (st := sIsWithin) l_iw c_iw k_iw
  have b_iw := F_iw.binds (ps := ["number", "least", "most"]) fun _ _ _ _ _ _ us hl => match us, hl with | [_, _, _], _ => rfl
  have F_im := fun_mk (st := sIsMaterial) l_im c_im k_im
  have b_im := F_im.binds (ps := ["strong", "lasts", "drops"]) fun _ _ _ _ _ _ us hl => match us, hl with | [_, _, _], _ => rfl
  have F_ov := fun_mk (st := sOverAt) l_ov c_ov k_ov
  have b_ov := F_ov.binds (ps := ["materials", "formula"]) fun _ _ _ _ _ _ us hl => match us, hl with | [_, _], _ => rfl
  have F_tu := fun_mk (st := sTurns) l_tu c_tu k_tu
  have b_tu := F_tu.binds (ps := ["materials", "formula"]) fun _ _ _ _ _ _ us hl => match us, hl with | [_, _], _ => rfl
  have F_le := fun_mk (st := sLeader) l_le c_le k_le
  have b_le := F_le.binds (ps := ["materials", "formula", "when"]) fun _ _ _ _ _ _ us hl => match us, hl with | [_, _, _], _ => rfl
  have F_st := fun_mk (st := sStrength) l_st c_st k_st
  have b_st := F_st.binds (ps := ["material", "drops", "when"]) fun _ _ _ _ _ _ us hl => match us, hl with | [_, _, _], _ => rfl
  have F_re := fun_mk (st := sRefusal) l_re c_re k_re
  have b_re := F_re.binds (ps := ["order", "count"]) fun _ _ _ _ _ _ us hl => match us, hl with | [_, _], _ => rfl
  have F_tf := fun_mk (st := sToldFewest) l_tf c_tf k_tf
  have b_tf := F_tf.binds (ps := ["mixtures"]) fun _ _ _ _ _ _ us hl => match us, hl with | [_], _ => rfl
  have F_te := fun_mk (st := sToldEven) l_te c_te k_te
  have b_te := F_te.binds (ps := ["mixtures"]) fun _ _ _ _ _ _ us hl => match us, hl with | [_], _ => rfl
  have F_of := fun_mk (st := sOfFewest) l_of c_of k_of
  have b_of := F_of.binds (ps := ["mixtures"]) fun _ _ _ _ _ _ us hl => match us, hl with | [_], _ => rfl
  have F_me := fun_mk (st := sMostEven) l_me c_me k_me
  have b_me := F_me.binds (ps := ["mixtures"]) fun _ _ _ _ _ _ us hl => match us, hl with | [_], _ => rfl
  have F_to := fun_mk (st := sToldOrders) l_to c_to k_to
  have b_to := F_to.binds (ps := ["orders"]) fun _ _ _ _ _ _ us hl => match us, hl with | [_], _ => rfl
  have F_an := fun_mk (st := sAnswers) l_an c_an k_an
  have b_an := F_an.binds (ps := ["calls"]) fun _ _ _ _ _ _ us hl => match us, hl with | [_], _ => rfl
  have F_ce := fun_mk (st := sCallEnd) l_ce c_ce k_ce
  have b_ce := F_ce.binds (ps := ["calls", "place"]) fun _ _ _ _ _ _ us hl => match us, hl with | [_, _], _ => rfl
  have F_aw := fun_mk (st := sAnswer) l_aw c_aw k_aw
  have b_aw := F_aw.binds (ps := ["shelf", "call"]) fun _ _ _ _ _ _ us hl => match us, hl with | [_, _], _ => rfl
  refine ⟨PySem.W.fnOf "answers" "answers" (defArgs sAnswers) (defBody sAnswers) (defScope sAnswers) .none kV_an dc_an pm_an an_an cd_an ct_an, fun s us hu => match us, hu with | [_], _ => .of_eq rfl, fun base _ _ => ?_⟩
  have W_iw : Fn P w K mg base "is_within" 1 ["number", "least", "most"] spWithin := ⟨f_iw, _, ok_within F_iw, PySem.W.mg_of X G a_iw, k_iw, b_iw⟩
  have W_im : Fn P w K mg base "is_material" 2 ["strong", "lasts", "drops"] spIsMat := ⟨f_im, _, ok_isMat F_im T W_iw, PySem.W.mg_of X G a_im, k_im, b_im⟩
  have W_st : Fn P w K mg base "strength_by_lasting" 1 ["material", "drops", "when"] (spStrength CM) := ⟨f_st, _, ok_strength F_st T, PySem.W.mg_of X G a_st, k_st, b_st⟩
  have W_le : Fn P w K mg base "leader" 2 ["materials", "formula", "when"] (spLeader K CM) := ⟨f_le, _, ok_leader F_le T W_st, PySem.W.mg_of X G a_le, k_le, b_le⟩
  have W_ov : Fn P w K mg base "over_at" 1 ["materials", "formula"] (spOver K CM) := ⟨f_ov, _, ok_over F_ov T, PySem.W.mg_of X G a_ov, k_ov, b_ov⟩
  have W_tu : Fn P w K mg base "turns" 3 ["materials", "formula"] (spTurns K CM) := ⟨f_tu, _, ok_turns F_tu T (W_ov.mono (by decide)) W_le, PySem.W.mg_of X G a_tu, k_tu, b_tu⟩
  have W_mi : Mak P w K mg base CM 1 ["self", "strong", "lasts", "most"] (spMatInit CM) := ⟨f_mi, _, ok_matInit F_mi T, ⟨mkM, a_mi, i_mi, kcM⟩, b_mi⟩
  have W_xi : Mak P w K mg base CX 1 ["self", "formula", "led"] (spMixInit CX) := ⟨f_xi, _, ok_mixInit F_xi T TX, ⟨mkX, a_xi, i_xi, kcX⟩, b_xi⟩
  have W_si : Mak P w K mg base CS 1 ["self"] (spShInit CS CM) := ⟨f_si, _, ok_shInit F_si T, ⟨mkS, a_si, i_si, kcS⟩, b_si⟩
  have W_be : Mth P w K mg base CS "begins" 2 ["self", "drops"] (spBegins CS CM) := ⟨f_be, _, ok_begins F_be T W_iw, ⟨a_be, i_be, k_be⟩, b_be⟩
  have W_ma : Mth P w K mg base CS "material" 3 ["self", "strong", "lasts", "drops"] (spMaterial CS CM) := ⟨f_ma, _, ok_material F_ma T W_im W_mi, ⟨a_ma, i_ma, k_ma⟩, b_ma⟩
  have W_mb : Mth P w K mg base CS "may_be" 1 ["self", "formula"] (spMayBe K CS CM) := ⟨f_mb, _, ok_mayBe F_mb T, ⟨a_mb, i_mb, k_mb⟩, b_mb⟩
  have W_co : Mth P w K mg base CS "course" 4 ["self", "formula"] (spCourse K CS CM) := ⟨f_co, _, ok_course F_co T (W_mb.mono (by decide)) (W_ov.mono (by decide)) W_tu, ⟨a_co, i_co, k_co⟩, b_co⟩
  have W_fo : Mth P w K mg base CS "formulas" 2 ["self"] (spFormulas CS CM) := ⟨f_fo, _, ok_formulas F_fo T W_mb, ⟨a_fo, i_fo, k_fo⟩, b_fo⟩
  have W_mx : Mth P w K mg base CS "mixtures" 4 ["self"] (spMixtures CS CM CX) := ⟨f_mx, _, ok_mixtures F_mx T TX (W_fo.mono (by decide)) W_tu (W_xi.mono (by decide)), ⟨a_mx, i_mx, k_mx⟩, b_mx⟩
  have W_mw : Mth P w K mg base CS "mixtures_with" 5 ["self", "order"] (spMixWith K CS CM CX) := ⟨f_mw, _, ok_mixWith F_mw T TX W_mx, ⟨a_mw, i_mw, k_mw⟩, b_mw⟩
  have W_re : Fn P w K mg base "order_refusal" 1 ["order", "count"] (spRefusal K) := ⟨f_re, _, ok_refusal F_re T, PySem.W.mg_of X G a_re, k_re, b_re⟩
  have W_of : Fn P w K mg base "of_fewest_drops" 1 ["mixtures"] (spOfFewest CX) := ⟨f_of, _, ok_ofFewest F_of T TX, PySem.W.mg_of X G a_of, k_of, b_of⟩
  have W_me : Fn P w K mg base "most_even" 1 ["mixtures"] (spMostEven CX) := ⟨f_me, _, ok_mostEven F_me T TX, PySem.W.mg_of X G a_me, k_me, b_me⟩
  have W_tf : Fn P w K mg base "told_fewest" 2 ["mixtures"] (spToldF CX) := ⟨f_tf, _, ok_toldF F_tf T TX W_of, PySem.W.mg_of X G a_tf, k_tf, b_tf⟩
  have W_te : Fn P w K mg base "told_even" 2 ["mixtures"] (spToldE CX) := ⟨f_te, _, ok_toldE F_te T TX W_of W_me, PySem.W.mg_of X G a_te, k_te, b_te⟩
  have W_to : Fn P w K mg base "told_orders" 1 ["orders"] (spToldO CX) := ⟨f_to, _, ok_toldO F_to T, PySem.W.mg_of X G a_to, k_to, b_to⟩
  have W_fe : Mth P w K mg base CS "fewest" 6 ["self", "order"] (spFewest K CS CM) := ⟨f_fe, _, ok_fewest F_fe T (W_re.mono (by decide)) W_mw (W_tf.mono (by decide)), ⟨a_fe, i_fe, k_fe⟩, b_fe⟩
  have W_ev : Mth P w K mg base CS "even" 6 ["self", "order"] (spEven K CS CM) := ⟨f_ev, _, ok_even F_ev T (W_re.mono (by decide)) W_mw (W_te.mono (by decide)), ⟨a_ev, i_ev, k_ev⟩, b_ev⟩
  have W_od : Mth P w K mg base CS "orders" 6 ["self"] (spOrders CS CM) := ⟨f_od, _, ok_orders F_od T TX (W_mx.mono (by decide)) (W_to.mono (by decide)), ⟨a_od, i_od, k_od⟩, b_od⟩
  have W_ce : Fn P w K mg base "call_end" 1 ["calls", "place"] (spCallEnd K) := ⟨f_ce, _, ok_callEnd F_ce T, PySem.W.mg_of X G a_ce, k_ce, b_ce⟩
  have W_aw : Fn P w K mg base "answer" 7 ["shelf", "call"] (spAnswer K CS CM) := ⟨f_aw, _, ok_answer F_aw T (W_be.mono (by decide)) (W_ma.mono (by decide)) (W_co.mono (by decide)) W_fe W_ev W_od, PySem.W.mg_of X G a_aw, k_aw, b_aw⟩
  exact ok_answers (k := 5) F_an T (W_si.mono (by decide)) (W_ce.mono (by decide)) W_aw
end Sm
end
section
set_option Elab.async false
open PySem PySem.W PyProof.Rows
set_option maxRecDepth 100000 in
set_option maxHeartbeats 0 in
theorem PySem.Challenge.cw_smelledwhen_s01_answers_holds : PySem.Challenge.rw_smelledwhen_s01_answers.Holds := by
  w_on; k_headS; (case hw => exact ⟨[.list [.int 0, .int 1]], by decide +kernel, by decide +kernel⟩)
  k_fillS
  refine L2.walk_specK (r := PySem.Challenge.rw_smelledwhen_s01_answers) (k := 8) (CX := L2.CX0) (ps := ["calls"]) (sp := Sm.spAnswers) (by decide +kernel) rfl rfl ⟨rfl, by decide, by decide⟩ (fun w h Y => PySem.W.kIn_of Y) ?F ?S (fun _ _ _ _ z => z)
  case F =>
    intro w mg fa h Y KX G hmg
    refine' Sm.all_mk KX G hmg ?nM ?nX ?nS ?a_mi ?i_mi ?l_mi ?c_mi ?k_mi ?a_xi ?i_xi ?l_xi ?c_xi ?k_xi ?a_si ?i_si ?l_si ?c_si ?k_si ?a_be ?i_be ?l_be ?c_be ?k_be ?a_ma ?i_ma ?l_ma ?c_ma ?k_ma ?a_co ?i_co ?l_co ?c_co ?k_co ?a_mb ?i_mb ?l_mb ?c_mb ?k_mb ?a_fe ?i_fe ?l_fe ?c_fe ?k_fe ?a_ev ?i_ev ?l_ev ?c_ev ?k_ev ?a_od ?i_od ?l_od ?c_od ?k_od ?a_mw ?i_mw ?l_mw ?c_mw ?k_mw ?a_mx ?i_mx ?l_mx ?c_mx ?k_mx ?a_fo ?i_fo ?l_fo ?c_fo ?k_fo ?a_iw ?l_iw ?c_iw ?k_iw ?a_im ?l_im ?c_im ?k_im ?a_ov ?l_ov ?c_ov ?k_ov ?a_tu ?l_tu ?c_tu ?k_tu ?a_le ?l_le ?c_le ?k_le ?a_st ?l_st ?c_st ?k_st ?a_re ?l_re ?c_re ?k_re ?a_tf ?l_tf ?c_tf ?k_tf ?a_te ?l_te ?c_te ?k_te ?a_of ?l_of ?c_of ?k_of ?a_me ?l_me ?c_me ?k_me ?a_to ?l_to ?c_to ?k_to ?a_an ?l_an ?c_an ?k_an ?a_ce ?l_ce ?c_ce ?k_ce ?a_aw ?l_aw ?c_aw ?k_aw ?pgM ?hdM ?poM ?saM ?mkM ?kcM ?pgX ?hdX ?poX ?saX ?mkX ?kcX ?pgS ?hdS ?poS ?saS ?mkS ?kcS ?noM_strong ?noM_lasts ?noM_most ?noS_most_drops ?noS_materials ?noX_formula ?noX_drops ?noX_order ?noX_evenness ?g_cBegins ?g_cMaterial ?g_cCourse ?g_cFewest ?g_cEven ?g_cOrders ?g_cMostMaterials ?g_cMostStrong ?g_cMostLasts ?g_cMostOne ?g_cMostAll ?g_cDrops ?g_cNotAsTold ?g_cMayNot ?g_cNoRoom ?g_cNotThere ?g_cTwice ?g_cNoFormula ?z_bLen ?z_bMax ?z_bMin ?z_bAny ?z_bSorted ?z_bZip ?z_bSum ?z_bRange ?z_bEnum
    (case nM => k_is); (case nX => k_is); (case nS => k_is); (case a_mi => k_is); (case i_mi => k_is); (case l_mi => k_is); (case c_mi => k_is); (case k_mi => k_is)
    (case a_xi => k_is); (case i_xi => k_is); (case l_xi => k_is); (case c_xi => k_is); (case k_xi => k_is); (case a_si => k_is); (case i_si => k_is); (case l_si => k_is)
    (case c_si => k_is); (case k_si => k_is); (case a_be => k_is); (case i_be => k_is); (case l_be => k_is); (case c_be => k_is); (case k_be => k_is); (case a_ma => k_is)
    (case i_ma => k_is); (case l_ma => k_is); (case c_ma => k_is); (case k_ma => k_is); (case a_co => k_is); (case i_co => k_is); (case l_co => k_is); (case c_co => k_is)
    (case k_co => k_is); (case a_mb => k_is); (case i_mb => k_is); (case l_mb => k_is); (case c_mb => k_is); (case k_mb => k_is); (case a_fe => k_is); (case i_fe => k_is)
    (case l_fe => k_is); (case c_fe => k_is); (case k_fe => k_is); (case a_ev => k_is); (case i_ev => k_is); (case l_ev => k_is); (case c_ev => k_is); (case k_ev => k_is)
    (case a_od => k_is); (case i_od => k_is); (case l_od => k_is); (case c_od => k_is); (case k_od => k_is); (case a_mw => k_is); (case i_mw => k_is); (case l_mw => k_is)
    (case c_mw => k_is); (case k_mw => k_is); (case a_mx => k_is); (case i_mx => k_is); (case l_mx => k_is); (case c_mx => k_is); (case k_mx => k_is); (case a_fo => k_is)
    (case i_fo => k_is); (case l_fo => k_is); (case c_fo => k_is); (case k_fo => k_is); (case a_iw => k_is); (case l_iw => k_is); (case c_iw => k_is); (case k_iw => k_is)
    (case a_im => k_is); (case l_im => k_is); (case c_im => k_is); (case k_im => k_is); (case a_ov => k_is); (case l_ov => k_is); (case c_ov => k_is); (case k_ov => k_is)
    (case a_tu => k_is); (case l_tu => k_is); (case c_tu => k_is); (case k_tu => k_is); (case a_le => k_is); (case l_le => k_is); (case c_le => k_is); (case k_le => k_is)
    (case a_st => k_is); (case l_st => k_is); (case c_st => k_is); (case k_st => k_is); (case a_re => k_is); (case l_re => k_is); (case c_re => k_is); (case k_re => k_is)
    (case a_tf => k_is); (case l_tf => k_is); (case c_tf => k_is); (case k_tf => k_is); (case a_te => k_is); (case l_te => k_is); (case c_te => k_is); (case k_te => k_is)
    (case a_of => k_is); (case l_of => k_is); (case c_of => k_is); (case k_of => k_is); (case a_me => k_is); (case l_me => k_is); (case c_me => k_is); (case k_me => k_is)
    (case a_to => k_is); (case l_to => k_is); (case c_to => k_is); (case k_to => k_is); (case a_an => k_is); (case l_an => k_is); (case c_an => k_is); (case k_an => k_is)
    (case a_ce => k_is); (case l_ce => k_is); (case c_ce => k_is); (case k_ce => k_is); (case a_aw => k_is); (case l_aw => k_is); (case c_aw => k_is); (case k_aw => k_is)
    (case pgM => k_is); (case hdM => k_is); (case poM => k_is); (case saM => k_is); (case mkM => k_is); (case kcM => k_is); (case pgX => k_is); (case hdX => k_is)
    (case poX => k_is); (case saX => k_is); (case mkX => k_is); (case kcX => k_is); (case pgS => k_is); (case hdS => k_is); (case poS => k_is); (case saS => k_is)
    (case mkS => k_is); (case kcS => k_is); (case noM_strong => k_is); (case noM_lasts => k_is); (case noM_most => k_is); (case noS_most_drops => k_is); (case noS_materials => k_is); (case noX_formula => k_is)
    (case noX_drops => k_is); (case noX_order => k_is); (case noX_evenness => k_is); (case g_cBegins => k_is); (case g_cMaterial => k_is); (case g_cCourse => k_is); (case g_cFewest => k_is); (case g_cEven => k_is)
    (case g_cOrders => k_is); (case g_cMostMaterials => k_is); (case g_cMostStrong => k_is); (case g_cMostLasts => k_is); (case g_cMostOne => k_is); (case g_cMostAll => k_is); (case g_cDrops => k_is); (case g_cNotAsTold => k_is)
    (case g_cMayNot => k_is); (case g_cNoRoom => k_is); (case g_cNotThere => k_is); (case g_cTwice => k_is); (case g_cNoFormula => k_is); (case z_bLen => k_is); (case z_bMax => k_is); (case z_bMin => k_is)
    (case z_bAny => k_is); (case z_bSorted => k_is); (case z_bZip => k_is); (case z_bSum => k_is); (case z_bRange => k_is); (case z_bEnum => k_is)
  case S =>
    intro K H xs a hO hwi hask hx
    cases hx with
    | cons h1 h2 =>
      cases h2
      cases h1 with
      | lst hs ha =>
        have e := L2.ints_dw a.1 _ ha
        subst e
        have q : ((Codec.inLen 0 2000 a.1 && a.1.all (Codec.inInt 0 4294967295)) && true) = true := hwi
        rw [Bool.and_eq_true, Bool.and_eq_true] at q
        exact ⟨_, a.1, rfl, Sm.FrzSq.only hO hs, (Codec.inNat_iff.mp q.1.1).2, hask, fun H' p hp => .lst (L2.SqL.of hp) (L2.dw_ints _)⟩
#print axioms PySem.Challenge.cw_smelledwhen_s01_answers_holds
end
