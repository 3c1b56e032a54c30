import PyProof.Rows.All
import Wide.All
import OpenK.AllK
import Wide.FinOn
import PyProof.EqAt
import PyProof.EqKinds
import PyProof.TupleCall
import KE.BitLaws
import Open.SpecLaws
import KE.OsHead
import KE.OsGo
import PyFlatLaws
import PySem.Challenge.RW_battenlath_s01_answers
set_option Elab.async false
set_option linter.all false
set_option maxRecDepth 100000
/-! THE HAND LAYER, for ints, bools, texts, own classes, lists, tuples, dicts, comprehensions, walks over dicts, enumerate, zip, reversed, texts, calls, loops. Paste it whole ahead of your own text; what your proof does not reach may be deleted. -/
namespace L2
open PySem PySem.Spec PyProof.Rows

/-- a key: an int or a str -/
abbrev Key := Sum Int Str
def keyIs : Key → Value → Bool
  | .inl k, v => Value.isInt k v
  | .inr x, v => Value.isStrOf x v
def keyH (w : World) : Key → Int
  | .inl k => hashInt k
  | .inr x => hashStr w x
theorem keyIs_shape : ∀ {k : Key} {v : Value}, keyIs k v = true → (∃ i t, k = Sum.inl i ∧ v = Value.int i t) ∨ (∃ x t, k = Sum.inr x ∧ v = Value.str x t)
  | .inl i, v, h => by
    obtain ⟨t, e⟩ := Value.isInt_shape (k := i) (v := v) h
    exact .inl ⟨i, t, rfl, e⟩
  | .inr x, v, h => by
    obtain ⟨t, e⟩ := Value.isStrOf_shape (x := x) (v := v) h
    exact .inr ⟨x, t, rfl, e⟩
theorem key_ll (a b : Int) : decide ((Sum.inl a : Key) = Sum.inl b) = (a == b) := by
  by_cases e : a = b
  · subst e; simp
  · have h : ¬ (Sum.inl a : Key) = Sum.inl b := fun q => e (Sum.inl.inj q)
    rw [decide_eq_false h]
    exact (beq_eq_false_iff_ne.mpr e).symm
theorem key_rr (a b : Str) : decide ((Sum.inr a : Key) = Sum.inr b) = decide (a = b) := by
  by_cases e : a = b
  · subst e; simp
  · have h : ¬ (Sum.inr a : Key) = Sum.inr b := fun q => e (Sum.inr.inj q)
    rw [decide_eq_false h, decide_eq_false e]
theorem key_lr (a : Int) (b : Str) : decide ((Sum.inl a : Key) = Sum.inr b) = false := decide_eq_false (fun q => nomatch q)
theorem key_rl (a : Str) (b : Int) : decide ((Sum.inr a : Key) = Sum.inl b) = false := decide_eq_false (fun q => nomatch q)

def mixKind (prog : Program) (w : World) : PySem.KeyKind prog w Key where
  is := keyIs
  hash := keyH w
  inj := fun v a b ha hb => by
    rcases keyIs_shape ha with ⟨i, t, rfl, rfl⟩ | ⟨x, t, rfl, rfl⟩
    · rcases keyIs_shape hb with ⟨j, u, rfl, e⟩ | ⟨y, u, rfl, e⟩
      · injection e with e1 _; rw [e1]
      · exact nomatch e
    · rcases keyIs_shape hb with ⟨j, u, rfl, e⟩ | ⟨y, u, rfl, e⟩
      · exact nomatch e
      · injection e with e1 _; rw [e1]
  byValue := fun k v h => by
    rcases keyIs_shape h with ⟨i, t, rfl, rfl⟩ | ⟨x, t, rfl, rfl⟩ <;> rfl
  pyHash := fun hv h => by
    rcases keyIs_shape hv with ⟨i, t, rfl, rfl⟩ | ⟨x, t, rfl, rfl⟩
    · exact wpAny_pyHash_int h
    · exact wpAny_pyHash_str h
  eqBool := fun hu hv h => by
    rcases keyIs_shape hu with ⟨i, t, rfl, rfl⟩ | ⟨x, t, rfl, rfl⟩
    · rcases keyIs_shape hv with ⟨j, u, rfl, rfl⟩ | ⟨y, u, rfl, rfl⟩
      · rw [key_ll] at h; exact wpAny_eqBool_int h
      · rw [key_lr] at h; exact SeqAt.EqAt.int_str i t y u _ _ _ _ h
    · rcases keyIs_shape hv with ⟨j, u, rfl, rfl⟩ | ⟨y, u, rfl, rfl⟩
      · rw [key_rl] at h; exact SeqAt.EqAt.str_int x t j u _ _ _ _ h
      · rw [key_rr] at h; exact wpAny_eqBool_str h
  «strs» := fun k x t v h => by
    rcases keyIs_shape h with ⟨i, u, rfl, e⟩ | ⟨y, u, rfl, e⟩
    · exact nomatch e
    · injection e with e1 _
      subst e1
      cases v <;> rfl

end L2

namespace L2
open PySem PySem.Spec PyProof.Rows

/-- a value, without the heap -/
inductive V where
  | non | bl (b : Bool) | int (i : Int) | str (x : Str) | byt (b : Array UInt8) | flt (b : UInt64) | ref (a : Addr) | ty (n : String)
  deriving DecidableEq

def RelV : V → Value → Prop
  | .non, u => u = Value.none
  | .bl b, u => u = Value.bool b
  | .int i, u => ∃ t, u = Value.int i t
  | .str x, u => ∃ t, u = Value.str x t
  | .byt b, u => ∃ t, u = Value.bytes b t
  | .flt b, u => ∃ t, u = Value.float b t
  | .ref a, u => u = Value.ref a
  | .ty n, u => u = Value.type n

abbrev Vals : List V → List Value → Prop := Paired RelV
theorem Vals.length {xs : List V} {us : List Value} (r : Vals xs us) : xs.length = us.length := Paired.length r
theorem Vals.get : ∀ {xs : List V} {us : List Value} {i : Nat} {x : V}, Vals xs us → xs[i]? = some x → ∃ u, us[i]? = some u ∧ RelV x u
  | _, _, _, _, .nil, e => by simp at e
  | _, _, 0, _, .cons r _, e => by simp at e; subst e; exact ⟨_, rfl, r⟩
  | _, _, i + 1, x, .cons _ t, e => by
    obtain ⟨u, h1, h2⟩ := Vals.get (i := i) (x := x) t (by simpa using e)
    exact ⟨u, by simpa using h1, h2⟩
theorem Vals.set {x : V} {u : Value} (r : RelV x u) : ∀ {xs : List V} {us : List Value} (i : Nat), Vals xs us → Vals (xs.set i x) (us.set i u)
  | _, _, _, .nil => .nil
  | _, _, 0, .cons _ t => .cons r t
  | _, _, i + 1, .cons q t => .cons q (Vals.set r i t)
theorem Vals.append : ∀ {xs ys : List V} {us ws : List Value}, Vals xs us → Vals ys ws → Vals (xs ++ ys) (us ++ ws)
  | _, _, _, _, .nil, s => s
  | _, _, _, _, .cons r t, s => .cons r (Vals.append t s)
theorem Vals.take : ∀ {xs : List V} {us : List Value} (n : Nat), Vals xs us → Vals (xs.take n) (us.take n)
  | _, _, 0, _ => .nil
  | _, _, _ + 1, .nil => .nil
  | _, _, n + 1, .cons r t => .cons r (Vals.take n t)
theorem Vals.drop : ∀ {xs : List V} {us : List Value} (n : Nat), Vals xs us → Vals (xs.drop n) (us.drop n)
  | _, _, 0, r => r
  | _, _, _ + 1, .nil => .nil
  | _, _, n + 1, .cons _ t => Vals.drop n t
theorem Vals.none_of : ∀ {xs : List V} {us : List Value} {i : Nat}, Vals xs us → xs[i]? = none → us[i]? = none := fun {xs us i} r e => by
  have h1 := r.length
  have h2 : xs.length ≤ i := List.getElem?_eq_none_iff.mp e
  exact List.getElem?_eq_none_iff.mpr (by omega)

def RelO : Option V → Option Value → Prop
  | some v, some u => RelV v u
  | none, none => True
  | _, _ => False
def KV {κ : Type} : List (κ × V) → List (κ × Value) → Prop := Paired fun (p : κ × V) (q : κ × Value) => p.1 = q.1 ∧ RelV p.2 q.2

/-- a key of a dict (00_mix): an int or a text -/
def kV : Key → V
  | .inl i => .int i
  | .inr x => .str x

/-- what stands at a tracked address -/
inductive HO where
  /-- a list -/
  | lst (xs : List V)
  /-- a tuple (never changes) -/
  | tup (xs : List V)
  /-- a dict whose keys are ints and texts; one whose keys are tuples of ints and texts (the empty one is both) -/
  | dK (kvs : List (Key × V)) | dT (kvs : List (List Key × V))
  /-- a set of ints: its members, its size -/
  | set (S : Int → Bool) (n : Nat)
  /-- an instance of the class at C, its dict at dx, its attributes -/
  | ins (C dx : Addr) (fs : List (Str × V))
  /-- the dict of the instance at x -/
  | own (x : Addr)
  /-- the dict of an exception -/
  | xd (fs : List (Str × V))
  /-- a bound method, f of x -/
  | met (f x : Addr)
  /-- a range object lo, lo + 1, .. below hi -/
  | rng (lo hi : Int)
  /-- a thing that is known to the object (the script; a dict while a loop walks it): read, never written while it is so -/
  | frz (o : Obj) (u : HO)
  /-- a code object's table -/
  | tbl (ps : Array Value)
  /-- any other thing, by what is true of its one object (a def of one's own: SetO a S n := HO.ext fun h => ..) -/
  | ext (φ : Heap → Prop)

abbrev Hp := Addr → Option HO
def upd (H : Hp) (a : Addr) (o : HO) : Hp := fun b => if b = a then some o else H b
theorem upd_same {H : Hp} {a : Addr} {o : HO} : upd H a o a = some o := by unfold upd; rw [if_pos rfl]
theorem upd_ne {H : Hp} {a b : Addr} {o : HO} (h : b ≠ a) : upd H a o b = H b := by unfold upd; rw [if_neg h]
/-- two objects of different content stand apart -/
theorem ne_of {H : Hp} {a b : Addr} {o u : HO} (h : H a = some o) (h' : H b = some u) (d : o ≠ u) : a ≠ b := by
  intro e; subst e; rw [h] at h'; exact d (Option.some.inj h')
theorem ne_of_none {H : Hp} {a b : Addr} {o : HO} (h : H a = some o) (h' : H b = none) : a ≠ b := by
  intro e; subst e; rw [h] at h'; cases h'

section
variable (P : Program) (w : World)
def ObjOk (H : Hp) (h : Heap) (a : Addr) : HO → Prop
  | .lst xs => xs.length ≤ sizeLine ∧ ∃ (its : List Value) (n : Nat), Vals xs its ∧ h.get? a = some { cls := .type "list", data := .seq its.toArray n }
  | .tup xs => xs.length ≤ sizeLine ∧ ∃ its : List Value, Vals xs its ∧ IsTup h a its.toArray
  | .dK kvs => kvs.length ≤ sizeLine ∧ (a == sysModules) = false ∧ ∃ vs, KV kvs vs ∧ h.DictOf (mixKind P w) a vs
  | .dT kvs => kvs.length ≤ sizeLine ∧ (a == sysModules) = false ∧ ∃ xs : List (List Key × Addr × Value),
      Paired (fun (p : List Key × V) (q : List Key × Addr × Value) => p.1 = q.1 ∧ H q.2.1 = some (.tup (p.1.map kV)) ∧ RelV p.2 q.2.2) kvs xs ∧
      ∃ o es ep, h.get? a = some o ∧ o.ExactDict ∧ o.data = .dict es ep ∧ es.toList = xs.map (entryOfKey (tupleKind (mixKind P w))) ∧ (xs.map (·.1)).Nodup
  | .set S n => h.SetOf (intKind P w) a S n
  | .ins C dx fs => H dx = some (.own a) ∧ fs.length ≤ 1000 ∧ dx ≠ a ∧ h.get? a = some (PySem.W.instObj C dx) ∧
      ∃ mA, h.Ns1 dx mA ∧ (∀ f, RelO (fs.lookup f) (mA f)) ∧ PySem.Within mA (fs.map (·.1))
  | .own _ => ∃ o, h.get? a = some o
  | .xd fs => ∃ mA, h.Ns1 a mA ∧ ∀ f, RelO (fs.lookup f) (mA f)
  | .rng lo hi => ∃ t u v, h.get? a = some { cls := .type "range", data := .fields #[.int lo t, .int hi u, .int 1 v] }
  | .frz o u => h.get? a = some o ∧ ObjOk H h a u
  | .tbl ps => h.get? a = some { cls := .none, data := .fields ps }
  | .met f x => h.get? a = some (PySem.W.methodObj (.ref f) (.ref x))
  | .ext φ => φ h ∧ (∃ o, h.get? a = some o) ∧ ∀ h1 h2 : Heap, φ h1 → (∀ o, h1.get? a = some o → h2.get? a = some o) → φ h2
/-- the abstract heap is held -/
def HOk (H : Hp) (h : Heap) : Prop := ∀ a o, H a = some o → ObjOk P w H h a o
end

section
variable {P : Program} {w : World} {H H' : Hp} {h h' : Heap} {a : Addr} {o : HO}
theorem ObjOk.lt (x : ObjOk P w H h a o) : a < h.objs.size := by
  cases o with
  | lst xs => obtain ⟨_, _, _, _, e⟩ := x; exact Heap.lt_size e
  | tup xs => obtain ⟨_, _, _, p⟩ := x; exact p.lt
  | dK kvs => obtain ⟨_, _, _, _, o, _, _, e, _⟩ := x; exact Heap.lt_size e
  | dT kvs => obtain ⟨_, _, _, _, o, _, _, e, _⟩ := x; exact Heap.lt_size e
  | set S n => obtain ⟨o, _, _, _, e, _⟩ := x; exact Heap.lt_size e
  | ins C dx fs => obtain ⟨_, _, _, e, _⟩ := x; exact Heap.lt_size e
  | own y => obtain ⟨_, e⟩ := x; exact Heap.lt_size e
  | xd fs => obtain ⟨_, ⟨_, _, _, e, _⟩, _⟩ := x; exact Heap.lt_size e
  | rng lo hi => obtain ⟨_, _, _, e⟩ := x; exact Heap.lt_size e
  | frz ob u => obtain ⟨e, _⟩ := x; exact Heap.lt_size e
  | tbl ps => exact Heap.lt_size (show h.get? a = some _ from x)
  | met f y => exact Heap.lt_size (show h.get? a = some _ from x)
  | ext φ => obtain ⟨_, ⟨_, e⟩, _⟩ := x; exact Heap.lt_size e
theorem Paired.mapP {α β : Type} {F G : α → β → Prop} : ∀ {l₁ : List α} {l₂ : List β}, Paired F l₁ l₂ → (∀ a b, F a b → G a b) → Paired G l₁ l₂
  | _, _, .nil, _ => .nil
  | _, _, .cons r t, f => .cons (f _ _ r) (Paired.mapP t f)
/-- what an object's description leans on: its own object, its own dict, the tuples -/
theorem ObjOk.stay (x : ObjOk P w H h a o) (k : ∀ b u, (b = a ∨ H b = some (.own a)) → h.get? b = some u → h'.get? b = some u)
    (ho : ∀ b, H b = some (.own a) → H' b = some (.own a)) (ht : ∀ b xs, H b = some (.tup xs) → H' b = some (.tup xs)) : ObjOk P w H' h' a o := by
  induction o with
  | lst xs => obtain ⟨z, its, n, r, e⟩ := x; exact ⟨z, its, n, r, k _ _ (.inl rfl) e⟩
  | tup xs => obtain ⟨z, its, r, ob, e, c⟩ := x; exact ⟨z, its, r, ob, k _ _ (.inl rfl) e, c⟩
  | dK kvs => obtain ⟨z, y, vs, r, ob, es, ep, e, c⟩ := x; exact ⟨z, y, vs, r, ob, es, ep, k _ _ (.inl rfl) e, c⟩
  | dT kvs =>
    obtain ⟨z, y, xs, r, ob, es, ep, e, c⟩ := x
    exact ⟨z, y, xs, Paired.mapP r fun p q z => ⟨z.1, ht _ _ z.2.1, z.2.2⟩, ob, es, ep, k _ _ (.inl rfl) e, c⟩
  | set S n => obtain ⟨ob, es, ep, t, e, c⟩ := x; exact ⟨ob, es, ep, t, k _ _ (.inl rfl) e, c⟩
  | ins C dx fs =>
    obtain ⟨d, z, ne, e, mA, ⟨od, es, ep, e2, c⟩, r⟩ := x
    exact ⟨ho _ d, z, ne, k _ _ (.inl rfl) e, mA, ⟨od, es, ep, k _ _ (.inr d) e2, c⟩, r⟩
  | own y => obtain ⟨ob, e⟩ := x; exact ⟨ob, k _ _ (.inl rfl) e⟩
  | xd fs => obtain ⟨mA, ⟨od, es, ep, e, c⟩, r⟩ := x; exact ⟨mA, ⟨od, es, ep, k _ _ (.inl rfl) e, c⟩, r⟩
  | rng lo hi => obtain ⟨t, u, v, e⟩ := x; exact ⟨t, u, v, k _ _ (.inl rfl) e⟩
  | frz ob u ih => obtain ⟨e, q⟩ := x; exact ⟨k _ _ (.inl rfl) e, ih q⟩
  | tbl ps =>
    have e : h.get? a = some { cls := .none, data := .fields ps } := x
    show h'.get? a = some { cls := .none, data := .fields ps }
    exact k a _ (.inl rfl) e
  | met f y =>
    have e : h.get? a = some (PySem.W.methodObj (.ref f) (.ref y)) := x
    show h'.get? a = some (PySem.W.methodObj (.ref f) (.ref y))
    exact k a _ (.inl rfl) e
  | ext φ => obtain ⟨p, ⟨o, e⟩, st⟩ := x; exact ⟨st _ _ p fun o q => k _ _ (.inl rfl) q, ⟨o, k _ _ (.inl rfl) e⟩, st⟩
theorem HOk.lt (x : HOk P w H h) (e : H a = some o) : a < h.objs.size := (x a o e).lt
theorem HOk.fresh (x : HOk P w H h) (e : h.objs.size ≤ a) : H a = none := by
  cases q : H a with
  | none => rfl
  | some u => exact absurd (Nat.lt_of_lt_of_le (x.lt q) e) (Nat.lt_irrefl _)
/-- every object of the heap is kept -/
theorem HOk.kept (x : HOk P w H h) (k : ∀ b u, h.get? b = some u → h'.get? b = some u) : HOk P w H h' := fun a o e =>
  (x a o e).stay (fun b u _ q => k b u q) (fun _ q => q) fun _ _ q => q
/-- a new object is laid and tracked -/
theorem HOk.laid (x : HOk P w H h) (k : ∀ b u, h.get? b = some u → h'.get? b = some u) (hp : h.objs.size ≤ a) (new : ObjOk P w (upd H a o) h' a o) : HOk P w (upd H a o) h' := fun b u e => by
  have hn := x.fresh hp
  by_cases hb : b = a
  · subst hb; rw [upd_same] at e; cases e; exact new
  · rw [upd_ne hb] at e
    exact (x b u e).stay (fun c v _ q => k c v q) (fun c q => by rw [upd_ne (ne_of_none q hn)]; exact q) fun c xs q => by rw [upd_ne (ne_of_none q hn)]; exact q
end

/-- what may be read as u: it is u, or a known u -/
def Rd (H : Hp) (a : Addr) (u : HO) : Prop := H a = some u ∨ ∃ o, H a = some (.frz o u)
theorem Rd.ok {P : Program} {w : World} {H : Hp} {h : Heap} {a : Addr} {u : HO} (r : Rd H a u) (x : HOk P w H h) : ObjOk P w H h a u := by
  rcases r with r | ⟨o, r⟩
  · exact x a u r
  · obtain ⟨_, q⟩ := x a _ r
    exact q
/-- what may be written -/
def Mut : Option HO → Prop
  | some (.lst _) => True
  | some (.dK _) => True
  | some (.dT _) => True
  | some (.set _ _) => True
  | some (.ins _ _ _) => True
  | some (.ext _) => True
  | _ => False
section
variable {P : Program} {w : World} {H : Hp} {h h' : Heap} {x e : Addr} {o' : HO}
/-- the object at e is changed: x itself, or the dict of the instance x -/
theorem HOk.write (ok : HOk P w H h) (mu : Mut (H x)) (he : e = x ∨ H e = some (.own x)) (k : ∀ b u, b ≠ e → h.get? b = some u → h'.get? b = some u) (heo : ∃ u, h'.get? e = some u)
    (new : ObjOk P w (upd H x o') h' x o') : HOk P w (upd H x o') h' := fun b u q => by
  have nown : ∀ c y, H c = some (.own y) → c ≠ x := fun c y r z => by subst z; rw [r] at mu; exact mu
  have ntup : ∀ c xs, H c = some (.tup xs) → c ≠ x := fun c xs r z => by subst z; rw [r] at mu; exact mu
  by_cases hb : b = x
  · subst hb; rw [upd_same] at q; cases q; exact new
  · rw [upd_ne hb] at q
    by_cases hbe : b = e
    · have q' : H b = some (.own x) := by
        rcases he with z | z
        · exact absurd (hbe.trans z) hb
        · rw [hbe]; exact z
      rw [q] at q'; cases q'
      obtain ⟨v, hv⟩ := heo
      exact ⟨v, by rw [hbe]; exact hv⟩
    · refine (ok b u q).stay (fun c v hc r => k c v ?_ r) (fun c r => by rw [upd_ne (nown c b r)]; exact r) fun c xs r => by rw [upd_ne (ntup c xs r)]; exact r
      rcases hc with rfl | hc
      · exact hbe
      · rintro rfl
        rcases he with z | z
        · exact nown c b hc z
        · rw [hc] at z; cases z; exact hb rfl
end

/-! ### kept unless tracked; of the frames at fs (the callers') the slots may change (an exception that passes writes there); of the records at ex (iterators) nothing is said -/
structure Un (fs ex : List Addr) (H H' : Hp) (h h' : Heap) : Prop where
  keep : ∀ b o, h.get? b = some o → H b = none → b ∉ fs → b ∉ ex → h'.get? b = some o
  slot : ∀ b o, h.get? b = some o → H b = none → b ∈ fs → b ∉ ex → ∃ sl, h'.get? b = some { o with slots := sl }
  free : ∀ b o, h.get? b = some o → H b = none → b ∉ ex → H' b = none
  there : ∀ b o, h.get? b = some o → b ∉ ex → ∃ o', h'.get? b = some o'
  tups : ∀ b xs, H b = some (.tup xs) → H' b = some (.tup xs)
  frzs : ∀ b o u, H b = some (.frz o u) → H' b = some (.frz o u)
  tbls : ∀ b ps, H b = some (.tbl ps) → ∃ more, H' b = some (.tbl (ps ++ more))
section
variable {fs fs' ex ex' : List Addr} {H H1 H2 : Hp} {h h1 h2 h' : Heap} {a x e : Addr} {o : HO}
theorem Un.any (u : Un fs ex H H1 h h1) {b : Addr} {ob : Obj} (q : h.get? b = some ob) (n : H b = none) (hx : b ∉ ex) : ∃ sl, h1.get? b = some { ob with slots := sl } := by
  by_cases hb : b ∈ fs
  · exact u.slot b ob q n hb hx
  · exact ⟨ob.slots, u.keep b ob q n hb hx⟩
theorem Un.kept (k : ∀ b u, h.get? b = some u → h'.get? b = some u) : Un fs ex H H h h' :=
  ⟨fun b ob q _ _ _ => k b ob q, fun b ob q _ _ _ => ⟨ob.slots, k b ob q⟩, fun _ _ _ n _ => n, fun b ob q _ => ⟨ob, k b ob q⟩, fun _ _ q => q, fun _ _ _ q => q, fun _ ps q => ⟨#[], by rw [q]; simp⟩⟩
theorem Un.refl : Un fs ex H H h h := Un.kept fun _ _ q => q
theorem Un.laid (k : ∀ b u, h.get? b = some u → h'.get? b = some u) (hp : h.objs.size ≤ a) (hn : H a = none) : Un fs ex H (upd H a o) h h' where
  keep := fun b u q _ _ _ => k b u q
  slot := fun b u q _ _ _ => ⟨u.slots, k b u q⟩
  free := fun b u q n _ => by rw [upd_ne (Nat.ne_of_lt (Nat.lt_of_lt_of_le (Heap.lt_size q) hp))]; exact n
  there := fun b u q _ => ⟨u, k b u q⟩
  tups := fun b xs q => by rw [upd_ne (ne_of_none q hn)]; exact q
  frzs := fun b u xs q => by rw [upd_ne (ne_of_none q hn)]; exact q
  tbls := fun b ps q => ⟨#[], by rw [upd_ne (ne_of_none q hn), q]; simp⟩
theorem Un.write (mu : Mut (H x)) (he : e = x ∨ H e = some (.own x)) (k : ∀ b u, b ≠ e → h.get? b = some u → h'.get? b = some u) (heo : ∃ u, h'.get? e = some u) : Un fs ex H (upd H x o) h h' := by
  have hx : ∀ b, H b = none → b ≠ x := fun b n z => by subst z; rw [n] at mu; exact mu
  have hb : ∀ b, H b = none → b ≠ e := fun b n z => by
    subst z
    rcases he with r | r
    · exact hx b n r
    · rw [n] at r; cases r
  have hm : ∀ b u, H b = some u → ¬ Mut (some u) → b ≠ x := fun b u q nm z => by subst z; rw [q] at mu; exact nm mu
  refine ⟨fun b u q n _ _ => k b u (hb b n) q, fun b u q n _ _ => ⟨u.slots, k b u (hb b n) q⟩, fun b u q n _ => by rw [upd_ne (hx b n)]; exact n, fun b u q _ => ?_,
    fun b xs q => by rw [upd_ne (hm b _ q fun z => z)]; exact q, fun b u xs q => by rw [upd_ne (hm b _ q fun z => z)]; exact q, fun b ps q => ⟨#[], by rw [upd_ne (hm b _ q fun z => z), q]; simp⟩⟩
  by_cases hbe : b = e
  · subst hbe; exact heo
  · exact ⟨u, k b u hbe q⟩
end

/-! ### the heap without what is tracked -/
def trk (h : Heap) (H : Hp) : List Addr := (List.range h.objs.size).filter fun a => (H a).isSome
def hidT (h : Heap) (H : Hp) : Heap := PySem.W.hideAll h (trk h H)
theorem hidT_size (h : Heap) (H : Hp) : (hidT h H).objs.size = h.objs.size := PySem.W.hideAll_size _ _
theorem hidT_get {h : Heap} {H : Hp} {b : Addr} {o : Obj} (e : h.get? b = some o) (n : H b = none) : (hidT h H).get? b = some o :=
  PySem.W.hideAll_get _ e fun hm => by
    have q : (H b).isSome = true := (List.mem_filter.mp hm).2
    rw [n] at q; simp at q
theorem of_hidT {h : Heap} {H : Hp} {b : Addr} {o : Obj} (e : (hidT h H).get? b = some o) : h.get? b = some o ∧ H b = none := by
  have e' : h.get? b = some o := PySem.W.of_hideAll (trk h H) e
  refine ⟨e', ?_⟩
  cases q : H b with
  | none => rfl
  | some x =>
    have hm : b ∈ trk h H := List.mem_filter.mpr ⟨List.mem_range.mpr (Heap.lt_size e'), by simp [q]⟩
    have z : (hidT h H).get? b = none := PySem.W.hideAll_none (trk h H) hm
    rw [z] at e; cases e

/-! ### OpenK's ledger, filled with every new object but one -/
end L2

namespace L2
open PySem PySem.Spec PyProof.Rows

/-- the module's facts, over the base: the heap at the law's entry without what is tracked there -/
structure Mod (K : PySem.W.Frag) (mg : Str → Option Value) (base : Heap) : Prop where
  kin : K.In base
  glob : base.Ns mainGlobals mg
  blt : ∃ mb, base.Ns builtinsNs mb ∧ ∀ x : Str, x ≠ "__name__" → mb x = bootBuiltins x
  nolimit : base.NoLimit

/-- the context: a def's body (or a comprehension's block) running. base: fixed through the whole law; s₀, H₀: the entry; outer: the frames whose slots others may change (a def's callers); stack: all frames that run;
   ex: iterators that were made ahead of the entry and are walked here (a comprehension's); fn: the names whose cells were made at the entry (a def: all; a comprehension's block: its own); calm: not within an except suite; pn: pins that every state bears; xe: what is wanted of an exception that leaves the code -/
structure Cx where
  prog : Program
  w : World
  K : PySem.W.Frag
  mg : Str → Option Value
  base : Heap
  A : Around
  N : List Str
  s_0 : Shared
  H_0 : Hp
  env : Env
  outer : List Env
  stack : List Env
  ex : List Addr
  fn : Str → Bool
  calm : Bool
  pn : List (Addr × Obj)
  xe : Value → Shared → Prop
/-- the callers' frames -/
def frs (l : List Env) : List Addr := l.filterMap (·.frame)
abbrev Cx.fs (X : Cx) : List Addr := frs X.outer

def Vis (sc : Scope) (x : Str) : Prop := sc.names.lookup x = some .local ∨ sc.names.lookup x = some .cell ∨ sc.names.lookup x = some .free
def Loc (sc : Scope) (x : Str) : Prop := sc.names.lookup x = some .local ∨ sc.names.lookup x = some .cell
def Look (env : Env) (h : Heap) (m : Str → Option Value) (x : Str) (u : Value) : Prop :=
  (env.kindOf x = some .local ∧ m x = some u) ∨ ((env.kindOf x = some .cell ∨ env.kindOf x = some .free) ∧ ∃ c, env.cells.lookup x = some c ∧ h.IsCell c (some u))

structure Cx.Ok (X : Cx) : Prop where
  mod : Mod X.K X.mg X.base
  kind : X.env.scope.kind = .function
  glob : X.env.globals = mainGlobals
  blt : X.env.builtins = builtinsNs
  above : X.s_0.heap.objs.size ≤ X.env.locals
  inj : ∀ x y c, X.env.cells.lookup x = some c → X.env.cells.lookup y = some c → x = y
  has : ∀ x, (X.env.kindOf x = some .cell ∨ X.env.kindOf x = some .free) → ∃ c, X.env.cells.lookup x = some c
  cab : ∀ x c, X.fn x = true → X.env.cells.lookup x = some c → X.s_0.heap.objs.size ≤ c
  hd : X.calm = true → X.A.handled = none
  frames : X.A.frames = some X.stack
  stk : X.stack = X.outer ∨ (X.stack = X.env :: X.outer ∧ X.env.frame = some X.env.locals)
  exf : ∀ b ∈ X.ex, b ≠ X.env.locals ∧ ∀ x c, X.env.cells.lookup x = some c → c ≠ b
  bs : ∀ b o, X.base.get? b = some o → X.s_0.heap.get? b = some o ∧ X.H_0 b = none
  bsz : X.base.objs.size ≤ X.s_0.heap.objs.size
  noex : ∀ b o, X.base.get? b = some o → b ∉ X.ex
  exfs : ∀ b ∈ X.ex, b ∉ X.fs
  funs : X.s_0.heap.FunFrames X.base X.outer
  frf : ∀ b ∈ X.fs, X.H_0 b = none

structure Inv (X : Cx) (pins : List (Addr × Obj)) (σ : List (Option V)) (H : Hp) (s : Shared) : Prop where
  ok : X.Ok
  os : s.os = X.s_0.os
  bare : AllBare s.gens
  base : Un X.fs X.ex X.H_0 H X.s_0.heap s.heap
  loc : ∃ m, s.heap.Ns X.env.locals m ∧ ∀ (i : Nat) (x : Str) (v : V), X.N[i]? = some x → σ[i]? = some (some v) → Vis X.env.scope x → ∃ u, RelV v u ∧ Look X.env s.heap m x u
  cell : ∀ x c, X.env.cells.lookup x = some c → ∃ v, s.heap.IsCell c v
  free : H X.env.locals = none
  freeC : ∀ x c, X.env.cells.lookup x = some c → H c = none
  pin : ∀ p ∈ X.pn ++ pins, s.heap.get? p.1 = some p.2 ∧ H p.1 = none ∧ p.1 ≠ X.env.locals ∧ p.1 ∉ X.fs ∧ ∀ v, p.2.data ≠ .cell v
  hok : HOk X.prog X.w H s.heap
  len : σ.length = X.N.length

section
variable {X : Cx} {pins : List (Addr × Obj)} {σ : List (Option V)} {H H' : Hp} {s : Shared} {h' : Heap}

theorem Cx.Ok.nofr (ok : X.Ok) {b : Addr} {o : Obj} (e : X.base.get? b = some o) : b ∉ X.fs := fun hb => by
  have := (ok.funs.mem hb).1
  rw [e] at this; cases this
theorem Inv.bs (I : Inv X pins σ H s) : ∀ b o, X.base.get? b = some o → s.heap.get? b = some o ∧ H b = none := fun b o e =>
  ⟨I.base.keep b o (I.ok.bs b o e).1 (I.ok.bs b o e).2 (I.ok.nofr e) (I.ok.noex b o e), I.base.free b o (I.ok.bs b o e).1 (I.ok.bs b o e).2 (I.ok.noex b o e)⟩
theorem Inv.bk (I : Inv X pins σ H s) : ∀ b o, X.base.get? b = some o → s.heap.get? b = some o := fun b o e => (I.bs b o e).1
theorem Inv.mod (I : Inv X pins σ H s) : Mod X.K X.mg X.base := I.ok.mod
theorem Inv.kIn (I : Inv X pins σ H s) : X.K.In s.heap := I.ok.mod.kin.keeps I.bk
theorem Inv.lt (I : Inv X pins σ H s) : X.env.locals < s.heap.objs.size := let ⟨_, hn, _⟩ := I.loc; hn.lt
theorem Inv.sz (I : Inv X pins σ H s) : X.s_0.heap.objs.size ≤ s.heap.objs.size := Nat.le_trans I.ok.above (Nat.le_of_lt I.lt)
theorem Inv.nofs (I : Inv X pins σ H s) {a : Addr} (h : s.heap.objs.size ≤ a) : a ∉ X.fs := fun hb => by
  obtain ⟨_, o, ho, _⟩ := I.ok.funs.mem hb
  exact absurd (Nat.lt_of_lt_of_le (Heap.lt_size ho) (Nat.le_trans I.sz h)) (Nat.lt_irrefl _)
theorem Inv.cne (I : Inv X pins σ H s) : ∀ x c, X.env.cells.lookup x = some c → c ≠ X.env.locals := fun x c e z => by
  obtain ⟨v, o, ho, hd⟩ := I.cell x c e
  obtain ⟨m, ⟨o', es, ep, ho', hd', _⟩, _⟩ := I.loc
  rw [z, ho'] at ho; cases ho; rw [hd'] at hd; cases hd
theorem Inv.funs (I : Inv X pins σ H s) : s.heap.FunFrames X.base X.outer := by
  have all : ∀ (l : List Env), (∀ b ∈ frs l, b ∈ X.fs) → X.s_0.heap.FunFrames X.base l → s.heap.FunFrames X.base l := by
    intro l
    induction l with
    | nil => intro _ _; trivial
    | cons env r ih =>
      intro hs hl
      obtain ⟨hk, ⟨L, o, hf, hn, ho, hd⟩, hr⟩ := hl
      have hL : L ∈ X.fs := hs L (by unfold frs; rw [List.filterMap_cons, hf]; exact List.mem_cons_self)
      obtain ⟨sl, e⟩ := I.base.slot L o ho (I.ok.frf L hL) hL fun z => I.ok.exfs L z hL
      exact ⟨hk, ⟨L, _, hf, hn, e, hd⟩, ih (fun b hb => hs b (by unfold frs; rw [List.filterMap_cons, hf]; exact List.mem_cons_of_mem _ hb)) hr⟩
  exact all X.outer (fun _ hb => hb) I.ok.funs

/-- the frames that run, for a call -/
theorem Inv.stack (I : Inv X pins σ H s) : s.heap.FunFrames X.base X.stack := by
  rcases I.ok.stk with e | ⟨e, hf⟩
  · rw [e]; exact I.funs
  · rw [e]
    obtain ⟨m, hn, _⟩ := I.loc
    refine .cons (by rw [I.ok.kind]; decide) hf hn ?_ I.funs
    exact Heap.get?_none_of_le (Nat.le_trans I.ok.bsz I.ok.above)
theorem Inv.stkSub (I : Inv X pins σ H s) : ∀ b ∈ frs X.stack, b ∈ X.env.locals :: X.fs := fun b hb => by
  rcases I.ok.stk with e | ⟨e, hf⟩
  · rw [e] at hb; exact List.mem_cons_of_mem _ hb
  · rw [e] at hb
    unfold frs at hb
    rw [List.filterMap_cons, hf] at hb
    exact hb
theorem Inv.stkFree (I : Inv X pins σ H s) : ∀ b ∈ frs X.stack, H b = none := fun b hb => by
  rcases List.mem_cons.mp (I.stkSub b hb) with e | hb
  · rw [e]; exact I.free
  · obtain ⟨_, o, ho, _⟩ := I.ok.funs.mem hb
    exact I.base.free b o ho (I.ok.frf b hb) fun z => I.ok.exfs b z hb

/-- THE STEP: the untracked objects but the frame and the records at ch are kept (the callers' frames up to slots), the frame's map is kept, the new abstract heap is held -/
theorem Inv.step {g' : Array GenState} {t' : Nat} {d' : Drawn} {ch : List Addr} (I : Inv X pins σ H s)
    (hch : ∀ b ∈ ch, (b ∈ X.ex ∨ X.s_0.heap.objs.size ≤ b) ∧ b ≠ X.env.locals ∧ (∀ x c, X.env.cells.lookup x = some c → c ≠ b) ∧ ∀ p ∈ X.pn ++ pins, p.1 ≠ b)
    (keep : ∀ b o, b ≠ X.env.locals → b ∉ X.fs → b ∉ ch → s.heap.get? b = some o → H b = none → h'.get? b = some o)
    (slot : ∀ b o, b ≠ X.env.locals → b ∈ X.fs → b ∉ ch → s.heap.get? b = some o → H b = none → ∃ sl, h'.get? b = some { o with slots := sl }) (free : ∀ b o, b ∉ ch → s.heap.get? b = some o → H b = none → H' b = none)
    (there : ∀ b o, b ∉ ch → s.heap.get? b = some o → ∃ o', h'.get? b = some o')
    (tups : ∀ b xs, H b = some (.tup xs) → H' b = some (.tup xs)) (frzs : ∀ b o u, H b = some (.frz o u) → H' b = some (.frz o u)) (tbls : ∀ b ps, H b = some (.tbl ps) → ∃ more, H' b = some (.tbl (ps ++ more)))
    (ns : ∀ m, s.heap.Ns X.env.locals m → h'.Ns X.env.locals m) (hok : HOk X.prog X.w H' h') (hg : AllBare g') :
    Inv X pins σ H' { s with heap := h', gens := g', drawn := d', toks := t' } := by
  have neL : ∀ b o, X.s_0.heap.get? b = some o → b ≠ X.env.locals := fun b o e => Nat.ne_of_lt (Nat.lt_of_lt_of_le (Heap.lt_size e) I.ok.above)
  have neC : ∀ b o, X.s_0.heap.get? b = some o → b ∉ X.ex → b ∉ ch := fun b o e hx hb => by
    rcases (hch b hb).1 with z | z
    · exact hx z
    · exact absurd (Nat.lt_of_lt_of_le (Heap.lt_size e) z) (Nat.lt_irrefl _)
  have cellK : ∀ x c, X.env.cells.lookup x = some c → ∀ v, s.heap.IsCell c v → h'.IsCell c v := fun x c e v ⟨o, ho, hd⟩ => by
    have nch : c ∉ ch := fun z => (hch c z).2.2.1 x c e rfl
    by_cases hc : c ∈ X.fs
    · obtain ⟨sl, q⟩ := slot c o (I.cne x c e) hc nch ho (I.freeC x c e)
      exact ⟨_, q, hd⟩
    · exact ⟨o, keep c o (I.cne x c e) hc nch ho (I.freeC x c e), hd⟩
  refine ⟨I.ok, I.os, hg, ⟨fun b o e n hb hx => ?_, fun b o e n hb hx => ?_, fun b o e n hx => ?_, fun b o e hx => ?_, fun b xs e => tups b xs (I.base.tups b xs e), fun b o xs e => frzs b o xs (I.base.frzs b o xs e), fun b ps e => ?_⟩, ?_, fun x c e => ?_, ?_, fun x c e => ?_, fun p hp => ?_, hok, I.len⟩
  · exact keep b o (neL b o e) hb (neC b o e hx) (I.base.keep b o e n hb hx) (I.base.free b o e n hx)
  · obtain ⟨sl, e1⟩ := I.base.slot b o e n hb hx
    obtain ⟨sl', e2⟩ := slot b _ (neL b o e) hb (neC b o e hx) e1 (I.base.free b o e n hx)
    exact ⟨sl', e2⟩
  · obtain ⟨o', e1⟩ := I.base.there b o e hx
    exact free b o' (neC b o e hx) e1 (I.base.free b o e n hx)
  · obtain ⟨o', e1⟩ := I.base.there b o e hx
    exact there b o' (neC b o e hx) e1
  · obtain ⟨m1, e1⟩ := I.base.tbls b ps e
    obtain ⟨m2, e2⟩ := tbls b _ e1
    exact ⟨m1 ++ m2, by rw [e2, Array.append_assoc]⟩
  · obtain ⟨m, hn, hl⟩ := I.loc
    refine ⟨m, ns m hn, fun i x v e1 e2 e3 => ?_⟩
    obtain ⟨u, r, l⟩ := hl i x v e1 e2 e3
    refine ⟨u, r, ?_⟩
    rcases l with l | ⟨k, c, e, z⟩
    · exact .inl l
    · exact .inr ⟨k, c, e, cellK x c e _ z⟩
  · obtain ⟨v, z⟩ := I.cell x c e
    exact ⟨v, cellK x c e v z⟩
  · obtain ⟨m, ⟨o, _, _, ho, _⟩, _⟩ := I.loc
    exact free _ o (fun z => (hch _ z).2.1 rfl) ho I.free
  · obtain ⟨v, o, ho, hd⟩ := I.cell x c e
    exact free c o (fun z => (hch c z).2.2.1 x c e rfl) ho (I.freeC x c e)
  · obtain ⟨e, n, ne, nf, d⟩ := I.pin p hp
    have nch : p.1 ∉ ch := fun z => (hch p.1 z).2.2.2 p hp rfl
    exact ⟨keep p.1 p.2 ne nf nch e n, free p.1 p.2 nch e n, ne, nf, d⟩
/-- .. where the frame's own object is kept too -/
theorem Inv.un {t' : Nat} (I : Inv X pins σ H s) (u : Un X.fs [] H H' s.heap h') (hok : HOk X.prog X.w H' h') : Inv X pins σ H' { s with heap := h', toks := t' } := by
  obtain ⟨m, ⟨o, es, ep, ho, r⟩, _⟩ := id I.loc
  obtain ⟨sl, hL⟩ := u.any ho I.free (by simp)
  exact I.step (g' := s.gens) (d' := s.drawn) (ch := []) (fun _ z => nomatch z) (fun b o _ hb _ e n => u.keep b o e n hb (by simp)) (fun b o _ hb _ e n => u.slot b o e n hb (by simp)) (fun b o _ e n => u.free b o e n (by simp)) (fun b o _ e => u.there b o e (by simp)) u.tups u.frzs u.tbls (fun m' hm => by
    obtain ⟨o', es', ep', ho', r'⟩ := hm
    rw [ho] at ho'; cases ho'
    exact ⟨_, es', ep', hL, r'⟩) hok I.bare
/-- behind a call (or a comprehension's block): the slots of this frame may have changed too, the records at ch may have turned -/
theorem Inv.call {g' : Array GenState} {t' : Nat} {d' : Drawn} {ch : List Addr} (I : Inv X pins σ H s) (u : Un (frs X.stack) ch H H' s.heap h') (hok : HOk X.prog X.w H' h') (hg : AllBare g')
    (hch : ∀ b ∈ ch, (b ∈ X.ex ∨ X.s_0.heap.objs.size ≤ b) ∧ b ≠ X.env.locals ∧ (∀ x c, X.env.cells.lookup x = some c → c ≠ b) ∧ ∀ p ∈ X.pn ++ pins, p.1 ≠ b) :
    Inv X pins σ H' { s with heap := h', gens := g', drawn := d', toks := t' } := by
  obtain ⟨m, ⟨o, es, ep, ho, r⟩, _⟩ := id I.loc
  obtain ⟨sl, hL⟩ := u.any ho I.free fun z => (hch _ z).2.1 rfl
  exact I.step (ch := ch) hch (fun b o hL hb hc e n => u.keep b o e n (fun z => (List.mem_cons.mp (I.stkSub b z)).elim hL hb) hc) (fun b o _ _ hc e n => u.any e n hc) (fun b o hc e n => u.free b o e n hc) (fun b o hc e => u.there b o e hc) u.tups u.frzs u.tbls (fun m' hm => by
    obtain ⟨o', es', ep', ho', r'⟩ := hm
    rw [ho] at ho'; cases ho'
    exact ⟨_, es', ep', hL, r'⟩) hok hg
/-- an untracked record of ours (an iterator) has turned -/
theorem Inv.turned {t' : Nat} {it : Addr} (I : Inv X pins σ H s) (k : ∀ b o, b ≠ it → s.heap.get? b = some o → h'.get? b = some o) (hn : H it = none) (hL : it ≠ X.env.locals)
    (h1 : it ∈ X.ex ∨ X.s_0.heap.objs.size ≤ it) (h2 : ∀ x c, X.env.cells.lookup x = some c → c ≠ it) (h3 : ∀ p ∈ X.pn ++ pins, p.1 ≠ it) : Inv X pins σ H { s with heap := h', toks := t' } := by
  have nit : ∀ b u, H b = some u → b ≠ it := fun b u e z => by rw [z, hn] at e; cases e
  refine I.step (g' := s.gens) (d' := s.drawn) (ch := [it]) (fun b hb => ?_) (fun b o _ _ hc e _ => k b o (fun z => hc (by simp [z])) e) (fun b o _ _ hc e _ => ⟨o.slots, k b o (fun z => hc (by simp [z])) e⟩) (fun _ _ _ _ n => n)
    (fun b o hc e => ⟨o, k b o (fun z => hc (by simp [z])) e⟩) (fun _ _ e => e) (fun _ _ _ e => e) (fun b ps e => ⟨#[], by rw [e]; simp⟩) (fun m hm => ?_) (fun b u e => ?_) I.bare
  · have e : b = it := by simpa using hb
    subst e
    exact ⟨h1, hL, h2, h3⟩
  · obtain ⟨o, es, ep, ho, r⟩ := hm
    exact ⟨o, es, ep, k _ o (Ne.symm hL) ho, r⟩
  · refine (I.hok b u e).stay (fun c v hc q => k c v ?_ q) (fun _ q => q) fun _ _ q => q
    rcases hc with z | z
    · rw [z]; exact nit b u e
    · exact nit c _ z
theorem Inv.tok (I : Inv X pins σ H s) (t : Nat) : Inv X pins σ H { s with toks := t } := I.un (h' := s.heap) (t' := t) Un.refl I.hok
/-- all objects kept -/
theorem Inv.kept {t' : Nat} (I : Inv X pins σ H s) (k : ∀ b u, s.heap.get? b = some u → h'.get? b = some u) : Inv X pins σ H { s with heap := h', toks := t' } := I.un (Un.kept k) (I.hok.kept k)
/-- a new object laid and tracked -/
theorem Inv.laid {a : Addr} {o : HO} {t' : Nat} (I : Inv X pins σ H s) (k : ∀ b u, s.heap.get? b = some u → h'.get? b = some u) (hp : s.heap.objs.size ≤ a) (new : ObjOk X.prog X.w (upd H a o) h' a o) :
    Inv X pins σ (upd H a o) { s with heap := h', toks := t' } := I.un (Un.laid k hp (I.hok.fresh hp)) (I.hok.laid k hp new)
/-- an object written -/
theorem Inv.write {x e : Addr} {o : HO} {t' : Nat} (I : Inv X pins σ H s) (mu : Mut (H x)) (he : e = x ∨ H e = some (.own x)) (k : ∀ b u, b ≠ e → s.heap.get? b = some u → h'.get? b = some u) (heo : ∃ u, h'.get? e = some u)
    (new : ObjOk X.prog X.w (upd H x o) h' x o) : Inv X pins σ (upd H x o) { s with heap := h', toks := t' } := I.un (Un.write mu he k heo) (I.hok.write mu he k heo new)
/-- forgetting slots, pins -/
theorem Inv.weak {σ' : List (Option V)} (I : Inv X pins σ H s) (hl : σ'.length = σ.length) (w : ∀ (i : Nat) v, σ'[i]? = some (some v) → σ[i]? = some (some v)) : Inv X pins σ' H s :=
  ⟨I.ok, I.os, I.bare, I.base, let ⟨m, hn, hl'⟩ := I.loc; ⟨m, hn, fun i x v e1 e2 e3 => hl' i x v e1 (w i v e2) e3⟩, I.cell, I.free, I.freeC, I.pin, I.hok, hl.trans I.len⟩
theorem Inv.pins_of {pins' : List (Addr × Obj)} (I : Inv X pins σ H s) (h : ∀ p ∈ pins', s.heap.get? p.1 = some p.2 ∧ H p.1 = none ∧ p.1 ≠ X.env.locals ∧ p.1 ∉ X.fs ∧ ∀ v, p.2.data ≠ .cell v) : Inv X pins' σ H s :=
  ⟨I.ok, I.os, I.bare, I.base, I.loc, I.cell, I.free, I.freeC, fun p hp => (List.mem_append.mp hp).elim (fun z => I.pin p (List.mem_append_left _ z)) (h p), I.hok, I.len⟩

theorem nodup_ix {N : List Str} (hN : N.Nodup) {i j : Nat} {x : Str} (a : N[i]? = some x) (b : N[j]? = some x) : i = j := by
  obtain ⟨h1, e1⟩ := List.getElem?_eq_some_iff.mp a
  obtain ⟨h2, e2⟩ := List.getElem?_eq_some_iff.mp b
  exact (List.getElem_inj hN).mp (e1.trans e2.symm)

/-- a name is stored; what changed -/
theorem store_ok2 {M : Model} {A : Around} {E : Value → Shared → Prop} {i : Nat} {x : Str} {v : V} {u : Value} {Q : Unit → Shared → Prop} (I : Inv X pins σ H s) (hN : X.N.Nodup) (hi : X.N[i]? = some x) (hx : Loc X.env.scope x) (r : RelV v u)
    (h : ∀ s', Inv X pins (σ.set i (some v)) H s' → (∃ a, Heap.SameBut a s.heap s'.heap ∧ (a = X.env.locals ∨ X.env.cells.lookup x = some a)) → Q () s') (hf : X.fn x = true ∨ X.env.scope.names.lookup x = some .local := by first | exact .inl rfl | exact .inr rfl | assumption) : wpAny M A (storeName X.env x u) Q E s := by
  obtain ⟨m, hn, hl⟩ := id I.loc
  have hcls : (X.env.scope.kind == .class || (X.env.scope.kind == .module && X.env.locals != X.env.globals)) = false := by rw [I.ok.kind]; rfl
  have hiσ : i < σ.length := by rw [I.len]; exact (List.getElem?_eq_some_iff.mp hi).1
  have cne := I.cne
  have tracked : ∀ {a : Addr} {h' : Heap}, (∃ o, s.heap.get? a = some o ∧ H a = none) → Heap.SameBut a s.heap h' → HOk X.prog X.w H h' := fun {a h'} ha hs b ob e => by
    obtain ⟨_, _, hfree⟩ := ha
    refine (I.hok b ob e).stay (fun c w' hc q => (hs.2 c ?_).trans q) (fun _ q => q) fun _ _ q => q
    rintro rfl
    rcases hc with rfl | hc
    · rw [hfree] at e; cases e
    · rw [hfree] at hc; cases hc
  rcases hx with hk | hk
  · refine wpAny_storeName_local hk hn (fun h' hn' hs => ?_) hcls
    obtain ⟨oL, _, _, hoL, _⟩ := id hn
    refine h _ ⟨I.ok, I.os, I.bare, ⟨fun b o e n hb hx => ?_, fun b o e n hb hx => ?_, I.base.free, fun b o e hx => ?_, I.base.tups, I.base.frzs, I.base.tbls⟩, ⟨_, hn', fun j y v' e1 e2 e3 => ?_⟩, fun y c e => ?_, I.free, I.freeC, fun p hp => ?_, tracked ⟨oL, hoL, I.free⟩ hs, by simpa using I.len⟩ ⟨_, hs, .inl rfl⟩
    · exact (hs.2 b (Nat.ne_of_lt (Nat.lt_of_lt_of_le (Heap.lt_size e) I.ok.above))).trans (I.base.keep b o e n hb hx)
    · obtain ⟨sl, e1⟩ := I.base.slot b o e n hb hx
      exact ⟨sl, (hs.2 b (Nat.ne_of_lt (Nat.lt_of_lt_of_le (Heap.lt_size e) I.ok.above))).trans e1⟩
    · obtain ⟨o', e1⟩ := I.base.there b o e hx
      exact ⟨o', (hs.2 b (Nat.ne_of_lt (Nat.lt_of_lt_of_le (Heap.lt_size e) I.ok.above))).trans e1⟩
    · by_cases hj : j = i
      · subst hj
        rw [hi] at e1; cases e1
        rw [List.getElem?_set_self hiσ] at e2
        cases e2
        exact ⟨u, r, .inl ⟨hk, by simp⟩⟩
      · rw [List.getElem?_set_ne (Ne.symm hj)] at e2
        obtain ⟨u', r', q⟩ := hl j y v' e1 e2 e3
        refine ⟨u', r', ?_⟩
        rcases q with ⟨k, e⟩ | ⟨k, c, e, z⟩
        · refine .inl ⟨k, ?_⟩
          have : y ≠ x := fun e => hj (nodup_ix hN e1 (e ▸ hi))
          simp [this, e]
        · exact .inr ⟨k, c, e, z.sameBut hs (cne y c e)⟩
    · obtain ⟨w', z⟩ := I.cell y c e
      exact ⟨w', z.sameBut hs (cne y c e)⟩
    · obtain ⟨e, n, ne, nf, d⟩ := I.pin p hp
      exact ⟨(hs.2 p.1 ne).trans e, n, ne, nf, d⟩
  · have hfn : X.fn x = true := by
      rcases hf with z | z
      · exact z
      · rw [z] at hk; cases hk
    obtain ⟨c, hc⟩ := I.ok.has x (.inl hk)
    obtain ⟨w', z⟩ := I.cell x c hc
    refine wpAny_storeName_cell I.ok.kind hk hc z (fun h' hc' hs => ?_)
    obtain ⟨oc, hoc, hocd⟩ := id z
    refine h { s with heap := h' } ⟨I.ok, I.os, I.bare, ⟨fun b o e n hb hx => ?_, fun b o e n hb hx => ?_, I.base.free, fun b o e hx => ?_, I.base.tups, I.base.frzs, I.base.tbls⟩, ⟨m, hn.sameBut hs (Ne.symm (cne x c hc)), fun j y v' e1 e2 e3 => ?_⟩, fun y c' e => ?_, I.free, I.freeC, fun p hp => ?_, tracked ⟨oc, hoc, I.freeC x c hc⟩ hs, by simpa using I.len⟩ ⟨c, hs, .inr hc⟩
    · exact (hs.2 b (Nat.ne_of_lt (Nat.lt_of_lt_of_le (Heap.lt_size e) (I.ok.cab x c hfn hc)))).trans (I.base.keep b o e n hb hx)
    · obtain ⟨sl, e1⟩ := I.base.slot b o e n hb hx
      exact ⟨sl, (hs.2 b (Nat.ne_of_lt (Nat.lt_of_lt_of_le (Heap.lt_size e) (I.ok.cab x c hfn hc)))).trans e1⟩
    · obtain ⟨o', e1⟩ := I.base.there b o e hx
      exact ⟨o', (hs.2 b (Nat.ne_of_lt (Nat.lt_of_lt_of_le (Heap.lt_size e) (I.ok.cab x c hfn hc)))).trans e1⟩
    · by_cases hj : j = i
      · subst hj
        rw [hi] at e1; cases e1
        rw [List.getElem?_set_self hiσ] at e2
        cases e2
        exact ⟨u, r, .inr ⟨.inl hk, c, hc, hc'⟩⟩
      · rw [List.getElem?_set_ne (Ne.symm hj)] at e2
        obtain ⟨u', r', q⟩ := hl j y v' e1 e2 e3
        refine ⟨u', r', ?_⟩
        rcases q with q | ⟨k, c', e, z'⟩
        · exact .inl q
        · refine .inr ⟨k, c', e, z'.sameBut hs ?_⟩
          rintro rfl
          exact hj (nodup_ix hN e1 (I.ok.inj _ _ _ e hc ▸ hi))
    · by_cases hcc : c' = c
      · subst hcc; exact ⟨_, hc'⟩
      · obtain ⟨w2, z2⟩ := I.cell y c' e
        exact ⟨w2, z2.sameBut hs hcc⟩
    · obtain ⟨e, n, ne, nf, d⟩ := I.pin p hp
      refine ⟨(hs.2 p.1 ?_).trans e, n, ne, nf, d⟩
      intro q
      rw [q, hoc] at e
      have q' : oc = p.2 := Option.some.inj e
      exact d w' (by rw [← q']; exact hocd)
theorem store_ok {M : Model} {A : Around} {E : Value → Shared → Prop} {i : Nat} {x : Str} {v : V} {u : Value} {Q : Unit → Shared → Prop} (I : Inv X pins σ H s) (hN : X.N.Nodup) (hi : X.N[i]? = some x) (hx : Loc X.env.scope x) (r : RelV v u)
    (h : ∀ s', Inv X pins (σ.set i (some v)) H s' → Q () s') (hf : X.fn x = true ∨ X.env.scope.names.lookup x = some .local := by first | exact .inl rfl | exact .inr rfl | assumption) : wpAny M A (storeName X.env x u) Q E s :=
  store_ok2 I hN hi hx r (fun s' I' _ => h s' I') hf
/-- behind a call or a block, the state as it is -/
theorem Inv.call' {s' : Shared} {ch : List Addr} (I : Inv X pins σ H s) (ho : s'.os = s.os) (u : Un (frs X.stack) ch H H' s.heap s'.heap) (hok : HOk X.prog X.w H' s'.heap) (hg : AllBare s'.gens)
    (hch : ∀ b ∈ ch, (b ∈ X.ex ∨ X.s_0.heap.objs.size ≤ b) ∧ b ≠ X.env.locals ∧ (∀ x c, X.env.cells.lookup x = some c → c ≠ b) ∧ ∀ p ∈ X.pn ++ pins, p.1 ≠ b) : Inv X pins σ H' s' := by
  obtain ⟨h', g', d', t', o'⟩ := s'
  have e : o' = s.os := ho
  subst e
  exact I.call (g' := g') (t' := t') (d' := d') u hok hg hch
end

/-! ### the judgements -/
/-- an exception: its class, its own dict's address (where it has one), the abstract heap behind it -/
abbrev XK := Value → Option Addr → Hp → Prop
abbrev St := List (Option V)
abbrev VK := V → Hp → Prop
/-- an expression's reading; a test's; an argument list's -/
abbrev TE := St → Hp → VK → Prop
abbrev TT := St → Hp → (Bool → Hp → Prop) → Prop
abbrev TA := St → Hp → (List V → Hp → Prop) → Prop
/-- what is wanted behind a statement -/
structure Ends where
  nx : St → Hp → Prop
  rt : VK
  bk : St → Hp → Prop := fun _ _ => False
  ct : St → Hp → Prop := fun _ _ => False
abbrev TS := Ends → St → Hp → Prop

def EP (X : Cx) (pins : List (Addr × Obj)) (σ : St) (Q : VK) (u : Value) (s' : Shared) : Prop := ∃ v H', Inv X pins σ H' s' ∧ RelV v u ∧ Q v H'
def TP (X : Cx) (pins : List (Addr × Obj)) (σ : St) (Q : Bool → Hp → Prop) (b : Bool) (s' : Shared) : Prop := ∃ H', Inv X pins σ H' s' ∧ Q b H'
def AP (X : Cx) (pins : List (Addr × Obj)) (σ : St) (Q : List V → Hp → Prop) (us : List Value) (s' : Shared) : Prop := ∃ vs H', Inv X pins σ H' s' ∧ Vals vs us ∧ Q vs H'
def SP (X : Cx) (pins : List (Addr × Obj)) (D : Ends) (f : Flow) (s' : Shared) : Prop :=
  match f with
  | .next => ∃ σ' H', Inv X pins σ' H' s' ∧ D.nx σ' H'
  | .brk => ∃ σ' H', Inv X pins σ' H' s' ∧ D.bk σ' H'
  | .cont => ∃ σ' H', Inv X pins σ' H' s' ∧ D.ct σ' H'
  | .ret u => ∃ v σ' H', Inv X pins σ' H' s' ∧ RelV v u ∧ D.rt v H'

def PE (X : Cx) (e : Expr) (t : TE) : Prop :=
  ∀ (pins : List (Addr × Obj)) (s : Shared) (σ : St) (H : Hp) (Q : VK), Inv X pins σ H s → t σ H Q → wpAny (model X.prog X.w) X.A (eval e X.env) (EP X pins σ Q) X.xe s
def PT (X : Cx) (e : Expr) (t : TT) : Prop :=
  ∀ (pins : List (Addr × Obj)) (s : Shared) (σ : St) (H : Hp) (Q : Bool → Hp → Prop), Inv X pins σ H s → t σ H Q → wpAny (model X.prog X.w) X.A (isTrue e X.env (eval e X.env)) (TP X pins σ Q) X.xe s
/-- a test whatever its 'whole' is (and, or) -/
def PW (X : Cx) (e : Expr) (t : TT) : Prop :=
  ∀ (whole : Sem Value) (pins : List (Addr × Obj)) (s : Shared) (σ : St) (H : Hp) (Q : Bool → Hp → Prop), Inv X pins σ H s → t σ H Q → wpAny (model X.prog X.w) X.A (isTrue e X.env whole) (TP X pins σ Q) X.xe s
theorem PW.pt {X : Cx} {e : Expr} {t : TT} (h : PW X e t) : PT X e t := h _
/-- an argument list (no star), from the left -/
def PA (X : Cx) (es : List Expr) (t : TA) : Prop :=
  ∀ (pos : Pos) (pins : List (Addr × Obj)) (s : Shared) (σ : St) (H : Hp) (Q : List V → Hp → Prop), Inv X pins σ H s → t σ H Q → wpAny (model X.prog X.w) X.A (spliced (backTo pos (starEach es X.env))) (AP X pins σ Q) X.xe s
def PS (X : Cx) (st : Stmt) (t : TS) : Prop :=
  ∀ (pins : List (Addr × Obj)) (s : Shared) (σ : St) (H : Hp) (D : Ends), Inv X pins σ H s → t D σ H → wpAny (model X.prog X.w) X.A (exec st X.env) (SP X pins D) X.xe s
def PSs (X : Cx) (st : List Stmt) (t : TS) : Prop :=
  ∀ (pins : List (Addr × Obj)) (s : Shared) (σ : St) (H : Hp) (D : Ends), Inv X pins σ H s → t D σ H → wpAny (model X.prog X.w) X.A (execs st X.env) (SP X pins D) X.xe s
/-- weaken the end -/
theorem thn {α : Type} {t : Sem α} {Q Q' : α → Shared → Prop} {M : Model} {A : Around} {E : Value → Shared → Prop} {s : Shared} (h : wpAny M A t Q E s) (hQ : ∀ a s, Q a s → Q' a s) : wpAny M A t Q' E s := wpAny_mono h hQ fun _ _ x => x
end L2

namespace L2
open PySem PySem.Spec PyProof.Rows
section
variable {X : Cx}


/-! ### names and constants -/
def tVar (i : Nat) : TE := fun σ H Q => ∃ v, σ[i]? = some (some v) ∧ Q v H
def tC (v : V) : TE := fun _ H Q => Q v H
theorem pe_var {i : Nat} {x : Str} {pos : Pos} (hN : X.N[i]? = some x) (hv : Vis X.env.scope x) (hd : (x == ("__debug__" : Str)) = false := by decide) (hcd : (x == ("__classdict__" : Str)) = false := by decide) : PE X (.Name x pos) (tVar i) := by
  intro pins s σ H Q I h
  obtain ⟨v, e, h⟩ := h
  obtain ⟨m, hn, hl⟩ := I.loc
  obtain ⟨u, r, l⟩ := hl i x v hN e hv
  have fin : EP X pins σ Q u s := ⟨v, H, I, r, h⟩
  rcases l with ⟨hk, hm⟩ | ⟨hk, c, hc, hcell⟩
  · exact wpAny_Name (wpAny_loadName_local I.ok.kind hk hn hm fin) hd
  · rcases hk with hk | hk
    · exact wpAny_Name (wpAny_loadName_cell I.ok.kind hk hc hcell fin) hd
    · exact wpAny_Name (wpAny_loadName_free I.ok.kind hk hc hcell fin hcd) hd
theorem pe_int {i j pos} : PE X (.Constant (.int i) j pos) (tC (.int i)) := fun _ _ _ H _ I h => wpAny_Constant_int ⟨.int i, H, I.tok _, ⟨_, rfl⟩, h⟩
theorem pe_bl {b j pos} : PE X (.Constant (.bool b) j pos) (tC (.bl b)) := fun _ _ _ H _ I h => Constant_bool ⟨.bl b, H, I, rfl, h⟩
theorem pe_non {j pos} : PE X (.Constant .none j pos) (tC .non) := fun _ _ _ H _ I h => Constant_none ⟨.non, H, I, rfl, h⟩

/-- a global name of the def -/
def Gl (X : Cx) (x : Str) : Prop := X.env.kindOf x = some .globalImplicit
theorem ld_glob {E : Value → Shared → Prop} {pins : List (Addr × Obj)} {s : Shared} {σ : St} {H : Hp} {x : Str} {u : Value} {pos : Pos} {Q : Value → Shared → Prop} (I : Inv X pins σ H s) (hg : Gl X x) (hm : X.mg x = some u) (h : Q u s)
    (hd : (x == ("__debug__" : Str)) = false := by decide) : wpAny (model X.prog X.w) X.A (eval (.Name x pos) X.env) Q E s :=
  Calls.Name_function_global I.ok.kind hg (Calls.loadGlobal_global (by rw [I.ok.glob]; exact I.mod.glob.keeps I.bk) hm h) hd
theorem ld_blt {E : Value → Shared → Prop} {pins : List (Addr × Obj)} {s : Shared} {σ : St} {H : Hp} {x : Str} {u : Value} {pos : Pos} {Q : Value → Shared → Prop} (I : Inv X pins σ H s) (hg : Gl X x) (hm : X.mg x = none) (hv : bootBuiltins x = some u) (h : Q u s)
    (hn : x ≠ "__name__" := by decide) (hd : (x == ("__debug__" : Str)) = false := by decide) : wpAny (model X.prog X.w) X.A (eval (.Name x pos) X.env) Q E s := by
  obtain ⟨mb, h1, h2⟩ := I.mod.blt
  exact Calls.Name_function_global I.ok.kind hg (Calls.loadGlobal_builtin (by rw [I.ok.glob]; exact I.mod.glob.keeps I.bk) hm (by rw [I.ok.blt]; exact h1.keeps I.bk) ((h2 x hn).trans hv) h) hd
/-- a module's constant, a class, a function, as a value -/
theorem pe_glob {x : Str} {v : V} {u : Value} {pos : Pos} (hg : Gl X x) (hm : X.mg x = some u) (r : RelV v u) (hd : (x == ("__debug__" : Str)) = false := by decide) : PE X (.Name x pos) (tC v) :=
  fun _ _ _ H _ I h => ld_glob I hg hm ⟨v, H, I, r, h⟩ hd

/-! ### arithmetic -/
variable {a b : Expr} {ta tb : TE} {pos : Pos}

/-! ### comparisons -/
/-- a comparison as a value, as a test -/
def tB (t : TE) : TT := fun σ H Q => t σ H fun x H1 => ∃ c, x = .bl c ∧ Q c H1
/-- an expression whose value is a bool, as a test -/
theorem pt_val {e : Expr} {t : TE} (h : PE X e t) (he : ∀ whole, isTrue e X.env whole = (do let v ← whole; standAt e.pos; holding [v] (truthy v)) := by intro _; rfl) : PT X e (tB t) := by
  intro pins s σ H Q I hw
  refine isTrue_plain (thn (h pins s σ H _ I hw) fun v s1 ⟨x, H1, I1, r1, q1⟩ => ?_) (he _)
  obtain ⟨d, rfl, q⟩ := q1
  cases r1
  exact wpAny_truthy_bool ⟨H1, I1, q⟩

/-! ### and, or, not -/
variable {tA tB' : TT} {rest : List Expr}
def tAnd (t u : TT) : TT := fun σ H Q => t σ H fun c H1 => if c = true then u σ H1 Q else Q false H1
def tOr (t u : TT) : TT := fun σ H Q => t σ H fun c H1 => if c = true then Q true H1 else u σ H1 Q
def tNot (t : TT) : TT := fun σ H Q => t σ H fun c H1 => Q (!c) H1
theorem pw_and1 (ha : PT X a tA) : PW X (.BoolOp .And [a] pos) tA := by
  intro wh pins s σ H Q I h
  refine isTrue_and (thn (ha pins s σ H Q I h) fun c s1 e => ?_)
  cases c with
  | true => exact isTrue_and_nil e
  | false => exact e
theorem pw_or1 (ha : PT X a tA) : PW X (.BoolOp .Or [a] pos) tA := by
  intro wh pins s σ H Q I h
  refine isTrue_or (thn (ha pins s σ H Q I h) fun c s1 e => ?_)
  cases c with
  | false => exact isTrue_or_nil e
  | true => exact e
theorem pw_and (ha : PT X a tA) (hb : PW X (.BoolOp .And (b :: rest) pos) tB') : PW X (.BoolOp .And (a :: b :: rest) pos) (tAnd tA tB') := by
  intro wh pins s σ H Q I h
  refine isTrue_and (thn (ha pins s σ H _ I h) fun c s1 ⟨H1, I1, q1⟩ => ?_)
  cases c with
  | true => exact hb wh pins s1 σ H1 Q I1 q1
  | false => exact ⟨H1, I1, q1⟩
theorem pw_or (ha : PT X a tA) (hb : PW X (.BoolOp .Or (b :: rest) pos) tB') : PW X (.BoolOp .Or (a :: b :: rest) pos) (tOr tA tB') := by
  intro wh pins s σ H Q I h
  refine isTrue_or (thn (ha pins s σ H _ I h) fun c s1 ⟨H1, I1, q1⟩ => ?_)
  cases c with
  | true => exact ⟨H1, I1, q1⟩
  | false => exact hb wh pins s1 σ H1 Q I1 q1
theorem pt_not (ha : PT X a tA) : PT X (.UnaryOp .Not a pos) (tNot tA) := by
  intro pins s σ H Q I h
  exact isTrue_not (ha pins s σ H (fun c H1 => Q (!c) H1) I h)
/-- .. as values (bools) -/
def tAndV (ta tb : TE) : TE := fun σ H Q => ta σ H fun x H1 => ∃ c, x = .bl c ∧ if c = true then tb σ H1 Q else Q (.bl false) H1
theorem pe_one {op} {t : TE} (h : PE X a t) : PE X (.BoolOp op [a] pos) t := fun pins s σ H Q I hw => BoolOp_one (h pins s σ H Q I hw)
theorem pe_and (ha : PE X a ta) (hb : PE X (.BoolOp .And (b :: rest) pos) tb) : PE X (.BoolOp .And (a :: b :: rest) pos) (tAndV ta tb) := by
  intro pins s σ H Q I h
  refine BoolOp_and (thn (ha pins s σ H _ I h) fun v s1 ⟨x, H1, I1, r1, q1⟩ => ?_)
  obtain ⟨c, rfl, q1⟩ := q1
  cases r1
  refine wpAny_truthy_bool ?_
  cases c with
  | true => exact hb pins s1 σ H1 Q I1 q1
  | false => exact ⟨.bl false, H1, I1, rfl, q1⟩
/-- a if t else b -/
def tIf (t : TT) (ta tb : TE) : TE := fun σ H Q => t σ H fun c H1 => if c = true then ta σ H1 Q else tb σ H1 Q
theorem pe_ifExp {c : Expr} (hc : PT X c tA) (ha : PE X a ta) (hb : PE X b tb) : PE X (.IfExp c a b pos) (tIf tA ta tb) := by
  intro pins s σ H Q I h
  refine wpAny_IfExp (thn (hc pins s σ H _ I h) fun d s1 ⟨H1, I1, q1⟩ => ?_)
  cases d with
  | true => exact ha pins s1 σ H1 Q I1 q1
  | false => exact hb pins s1 σ H1 Q I1 q1
end
end L2

namespace L2
open PySem PySem.Spec PyProof.Rows

/-! ### a list, a tuple that is read: tracked, frozen, or an object of the module -/
def SqL (K : PySem.W.Frag) (H : Hp) (a : Addr) (xs : List V) : Prop :=
  Rd H a (.lst xs) ∨
    ∃ (o : Obj) (its : Array Value) (n : Nat), K.lookup a = some o ∧ o.cls = .type "list" ∧ o.dict = none ∧ o.data = .seq its n ∧ its.size ≤ sizeLine ∧ Vals xs its.toList
def SqT (K : PySem.W.Frag) (H : Hp) (a : Addr) (xs : List V) : Prop :=
  Rd H a (.tup xs) ∨
    ∃ (o : Obj) (its : Array Value) (n : Nat), K.lookup a = some o ∧ o.cls = .type "tuple" ∧ o.data = .seq its n ∧ its.size ≤ sizeLine ∧ Vals xs its.toList
def absV : Value → Option V
  | .none => some .non
  | .bool b => some (.bl b)
  | .int i _ => some (.int i)
  | .str x _ => some (.str x)
  | .bytes b _ => some (.byt b)
  | .float b _ => some (.flt b)
  | .ref a => some (.ref a)
  | .type n => some (.ty n)
  | _ => none
theorem RelV.abs {x : V} {u : Value} (r : RelV x u) : absV u = some x := by
  cases x with
  | non => cases r; rfl
  | bl _ => cases r; rfl
  | int _ => obtain ⟨t, rfl⟩ := r; rfl
  | str _ => obtain ⟨t, rfl⟩ := r; rfl
  | byt _ => obtain ⟨t, rfl⟩ := r; rfl
  | flt _ => obtain ⟨t, rfl⟩ := r; rfl
  | ref _ => cases r; rfl
  | ty _ => cases r; rfl
theorem RelV.inj {x y : V} {u : Value} (r : RelV x u) (q : RelV y u) : x = y := Option.some.inj (r.abs.symm.trans q.abs)
theorem Vals.inj : ∀ {xs ys : List V} {us : List Value}, Vals xs us → Vals ys us → xs = ys
  | _, _, _, .nil, .nil => rfl
  | _, _, _, .cons r t, .cons r' t' => by rw [r.inj r', Vals.inj t t']
section
variable {X : Cx} {pins : List (Addr × Obj)} {σ : St} {H : Hp} {s : Shared} {a : Addr} {xs ys : List V}
theorem SqL.of {K : PySem.W.Frag} (h : H a = some (.lst xs)) : SqL K H a xs := .inl (.inl h)
theorem SqT.of {K : PySem.W.Frag} (h : H a = some (.tup xs)) : SqT K H a xs := .inl (.inl h)
theorem Inv.list (I : Inv X pins σ H s) (h : SqL X.K H a xs) : ∃ its : List Value, Vals xs its ∧ PlainL s.heap a its.toArray ∧ xs.length ≤ sizeLine := by
  rcases h with h | ⟨o, its, n, hk, hc, hd, hs, hz, r⟩
  · obtain ⟨z, its, n, r, e⟩ := h.ok I.hok
    exact ⟨its, r, ⟨_, n, e, rfl, rfl, rfl⟩, z⟩
  · refine ⟨its.toList, r, ⟨o, n, I.kIn a o hk, hc, hd, by simpa using hs⟩, ?_⟩
    have e := r.length
    simp only [Array.length_toList] at e
    omega
theorem Inv.tuple (I : Inv X pins σ H s) (h : SqT X.K H a xs) : ∃ its : List Value, Vals xs its ∧ IsTup s.heap a its.toArray ∧ xs.length ≤ sizeLine := by
  rcases h with h | ⟨o, its, n, hk, hc, hs, hz, r⟩
  · obtain ⟨z, its, r, p⟩ := h.ok I.hok
    exact ⟨its, r, p, z⟩
  · refine ⟨its.toList, r, ⟨o, I.kIn a o hk, hc, n, by simpa using hs⟩, ?_⟩
    have e := r.length
    simp only [Array.length_toList] at e
    omega
theorem Inv.list_inj (I : Inv X pins σ H s) (h : SqL X.K H a xs) (h' : SqL X.K H a ys) : xs = ys := by
  obtain ⟨its, r, ⟨o, n, e, _, _, d⟩, _⟩ := I.list h
  obtain ⟨its', r', ⟨o', n', e', _, _, d'⟩, _⟩ := I.list h'
  rw [e] at e'; cases e'
  rw [d] at d'
  injection d' with d1 _
  have : its = its' := by simpa using congrArg Array.toList d1
  subst this
  exact r.inj r'
theorem Inv.tuple_inj (I : Inv X pins σ H s) (h : SqT X.K H a xs) (h' : SqT X.K H a ys) : xs = ys := by
  obtain ⟨its, r, ⟨o, e, _, n, d⟩, _⟩ := I.tuple h
  obtain ⟨its', r', ⟨o', e', _, n', d'⟩, _⟩ := I.tuple h'
  rw [e] at e'; cases e'
  rw [d] at d'
  injection d' with d1 _
  have : its = its' := by simpa using congrArg Array.toList d1
  subst this
  exact r.inj r'
end

/-! ### another wish about exceptions -/
abbrev Cx.wish (X : Cx) (E : Value → Shared → Prop) : Cx := { X with xe := E }
/-- no exception leaves -/
abbrev Cx.nox (X : Cx) : Cx := X.wish fun _ _ => False
theorem Cx.Ok.wish {X : Cx} (ok : X.Ok) (E : Value → Shared → Prop) : (X.wish E).Ok :=
  ⟨ok.mod, ok.kind, ok.glob, ok.blt, ok.above, ok.inj, ok.has, ok.cab, ok.hd, ok.frames, ok.stk, ok.exf, ok.bs, ok.bsz, ok.noex, ok.exfs, ok.funs, ok.frf⟩
theorem Cx.Ok.unwish {X : Cx} {E : Value → Shared → Prop} (ok : (X.wish E).Ok) : X.Ok :=
  ⟨ok.mod, ok.kind, ok.glob, ok.blt, ok.above, ok.inj, ok.has, ok.cab, ok.hd, ok.frames, ok.stk, ok.exf, ok.bs, ok.bsz, ok.noex, ok.exfs, ok.funs, ok.frf⟩
section
variable {X : Cx} {pins : List (Addr × Obj)} {σ : St} {H : Hp} {s : Shared} {E : Value → Shared → Prop}
theorem Inv.wish (I : Inv X pins σ H s) (E : Value → Shared → Prop) : Inv (X.wish E) pins σ H s := ⟨I.ok.wish E, I.os, I.bare, I.base, I.loc, I.cell, I.free, I.freeC, I.pin, I.hok, I.len⟩
theorem Inv.unwish (I : Inv (X.wish E) pins σ H s) : Inv X pins σ H s := ⟨I.ok.unwish, I.os, I.bare, I.base, I.loc, I.cell, I.free, I.freeC, I.pin, I.hok, I.len⟩
theorem SP.unwish {D : Ends} {f : Flow} {s' : Shared} (h : SP (X.wish E) pins D f s') : SP X pins D f s' := by
  cases f with
  | next => obtain ⟨σ', H', I, q⟩ := h; exact ⟨σ', H', I.unwish, q⟩
  | brk => obtain ⟨σ', H', I, q⟩ := h; exact ⟨σ', H', I.unwish, q⟩
  | cont => obtain ⟨σ', H', I, q⟩ := h; exact ⟨σ', H', I.unwish, q⟩
  | ret u => obtain ⟨v, σ', H', I, r, q⟩ := h; exact ⟨v, σ', H', I.unwish, r, q⟩
theorem PSs.nox {st : List Stmt} {t : TS} (h : PSs X.nox st t) : PSs X st t := fun pins s σ H D I hw =>
  wpAny_mono (h pins s σ H D (I.wish _) hw) (fun _ _ q => q.unwish) fun _ _ z => False.elim z
end

/-! ### blocks and small statements -/
section
variable {X : Cx} {st : Stmt} {rest : List Stmt} {t u : TS} {e : Expr} {te : TE} {pos : Pos}
def tNext : TS := fun D σ H => D.nx σ H
def tSeq (t u : TS) : TS := fun D σ H => t { D with nx := u D } σ H
theorem pss_nil : PSs X [] tNext := fun _ _ σ H _ I h => wpAny_execs_nil ⟨σ, H, I, h⟩
theorem pss_cons (h1 : PS X st t) (h2 : PSs X rest u) : PSs X (st :: rest) (tSeq t u) := by
  intro pins s σ H D I h
  refine wpAny_execs_cons (thn (h1 pins s σ H { D with nx := u D } I h) fun f s1 q => ?_)
  cases f with
  | next =>
    obtain ⟨σ', H', I', q⟩ := q
    exact h2 pins s1 σ' H' D I' q
  | ret v => exact q
  | brk => exact q
  | cont => exact q
theorem pss_one (h1 : PS X st t) : PSs X [st] t := by
  intro pins s σ H D I h
  refine wpAny_execs_cons (thn (h1 pins s σ H D I h) fun f s1 q => ?_)
  cases f with
  | next => exact wpAny_execs_nil q
  | ret v => exact q
  | brk => exact q
  | cont => exact q
/-- in a def's body nothing is shown -/
theorem Inv.quiet {pins : List (Addr × Obj)} {σ : St} {H : Hp} {s : Shared} (I : Inv X pins σ H s) : interactive X.env = false := by simp [interactive, I.ok.kind]
/-- an expression whose value is dropped -/
def tDrop (te : TE) : TS := fun D σ H => te σ H fun _ H1 => D.nx σ H1
theorem ps_expr (he : PE X e te) (hs : swapsWith e none pos.line X.env = pure false := by rfl) : PS X (.Expr e pos) (tDrop te) := by
  intro pins s σ H D I h
  exact wpAny_Expr_any (thn (he pins s σ H _ I h) fun v s1 ⟨x, H1, I1, r1, q1⟩ => ⟨σ, H1, I1, q1⟩) I.quiet hs
def tRet (te : TE) : TS := fun D σ H => te σ H D.rt
theorem ps_ret (he : PE X e te) : PS X (.Return (some e) pos) (tRet te) := by
  intro pins s σ H D I h
  exact wpAny_Return_some (thn (he pins s σ H _ I h) fun v s1 ⟨x, H1, I1, r1, q1⟩ => ⟨x, σ, H1, I1, r1, q1⟩)
def tIfS (c : TT) (t u : TS) : TS := fun D σ H => c σ H fun b H1 => if b = true then t D σ H1 else u D σ H1
theorem ps_if {c : Expr} {a b : List Stmt} {tc : TT} (hc : PT X c tc) (ha : PSs X a t) (hb : PSs X b u) : PS X (.If c a b pos) (tIfS tc t u) := by
  intro pins s σ H D I h
  refine wpAny_If (thn (hc pins s σ H _ I h) fun d s1 ⟨H1, I1, q1⟩ => ?_)
  cases d with
  | true => exact ha pins s1 σ H1 D I1 q1
  | false => exact hb pins s1 σ H1 D I1 q1
/-- code that the proof never comes to -/
def tNever : TS := fun _ _ _ => False
theorem ps_never : PS X st tNever := fun _ _ _ _ _ _ h => h.elim
end

/-! ### targets -/
abbrev TG := V → St → Hp → (St → Hp → Prop) → Prop
abbrev TGs := List V → St → Hp → (St → Hp → Prop) → Prop
def PG (X : Cx) (target : Expr) (t : TG) : Prop :=
  ∀ (pins : List (Addr × Obj)) (s : Shared) (σ : St) (H : Hp) (v : V) (u : Value) (Q : St → Hp → Prop), Inv X pins σ H s → RelV v u → t v σ H Q →
    wpAny (model X.prog X.w) X.A (assign target X.env u) (fun _ s' => ∃ σ' H', Inv X pins σ' H' s' ∧ Q σ' H') X.xe s
/-- several targets, one after another -/
def PGs (X : Cx) (ts : List Expr) (t : TGs) : Prop :=
  ∀ (pins : List (Addr × Obj)) (s : Shared) (σ : St) (H : Hp) (vs : List V) (us : List Value) (Q : St → Hp → Prop), Inv X pins σ H s → Vals vs us → t vs σ H Q →
    wpAny (model X.prog X.w) X.A (assignInOrder ((assignEach ts X.env).map (·.2)) us) (fun _ s' => ∃ σ' H', Inv X pins σ' H' s' ∧ Q σ' H') X.xe s
/-- o[i] = v, by values -/
abbrev TSet := V → V → V → Hp → (Hp → Prop) → Prop
def PSet (X : Cx) (t : TSet) : Prop :=
  ∀ (pins : List (Addr × Obj)) (s : Shared) (σ : St) (H : Hp) (o i v : V) (ov iv u : Value) (Q : Hp → Prop), Inv X pins σ H s → RelV o ov → RelV i iv → RelV v u → t o i v H Q →
    wpAny (model X.prog X.w) X.A (setItem ov iv u) (fun _ s' => ∃ H', Inv X pins σ H' s' ∧ Q H') X.xe s
section
variable {X : Cx} {pos : Pos}
def gName (i : Nat) : TG := fun v σ H Q => Q (σ.set i (some v)) H
theorem pg_name {i : Nat} {x : Str} (hN : X.N.Nodup) (hi : X.N[i]? = some x) (hx : Loc X.env.scope x) (hf : X.fn x = true ∨ X.env.scope.names.lookup x = some .local := by first | exact .inl rfl | exact .inr rfl | assumption) : PG X (.Name x pos) (gName i) := by
  intro pins s σ H v u Q I r h
  exact wpAny_assign_Name (store_ok I hN hi hx r (fun s' I' => ⟨_, H, I', h⟩) hf)
def gNil : TGs := fun vs σ H Q => vs = [] ∧ Q σ H
def gCons (t : TG) (u : TGs) : TGs := fun vs σ H Q => ∃ v r, vs = v :: r ∧ t v σ H fun σ' H' => u r σ' H' Q
theorem pgs_nil : PGs X [] gNil := by
  intro pins s σ H vs us Q I r h
  obtain ⟨e, h⟩ := h
  subst e
  cases r
  exact assignInOrder_nil ⟨σ, H, I, h⟩
theorem pgs_cons {e : Expr} {es : List Expr} {t : TG} {u : TGs} (h1 : PG X e t) (h2 : PGs X es u)
    (hs : (assignEach (e :: es) X.env).map (·.2) = assign e X.env :: (assignEach es X.env).map (·.2) := by rfl) : PGs X (e :: es) (gCons t u) := by
  intro pins s σ H vs us Q I r h
  obtain ⟨v, vr, e1, h⟩ := h
  subst e1
  cases r with
  | cons r rr =>
    rw [hs]
    refine assignInOrder_cons (thn (h1 pins s σ H _ _ _ I r h) fun _ s1 ⟨σ1, H1, I1, q1⟩ => ?_)
    exact h2 pins s1 σ1 H1 _ _ Q I1 rr q1
/-- (a, b, ..) = a tuple of that length -/
def gTup (K : PySem.W.Frag) (n : Nat) (t : TGs) : TG := fun v σ H Q => ∃ a xs, v = .ref a ∧ SqT K H a xs ∧ xs.length = n ∧ t xs σ H Q
theorem pg_tup {es : List Expr} {k : Nat} {t : TGs} {n : Nat} (hc : X.calm = true) (h : PGs X es t)
    (hn : (assignEach es X.env).length = n := by rfl) (hst : (assignEach es X.env).findIdx? (·.1) = none := by rfl) : PG X (.Tuple es k pos) (gTup X.K n t) := by
  intro pins s σ H v u Q I r hw
  obtain ⟨a, xs, e1, hq, hl, hw⟩ := hw
  subst e1
  cases r
  obtain ⟨its, rv, ht, hz⟩ := I.tuple hq
  refine assign_Tuple_tuple (I.ok.hd hc) ht (by simp [hn, ← hl, rv.length]) hst fun h' hx => ?_
  have I1 : Inv X pins σ H { s with heap := h' } := I.kept (t' := s.toks) fun b o e => hx b o (Nat.ne_of_lt (Heap.lt_size e)) e
  exact h pins _ σ H xs _ Q I1 (by simpa using rv) hw
/-- o[i] = .. -/
def gSub (to ti : TE) (t : TSet) : TG := fun v σ H Q => to σ H fun o H1 => ti σ H1 fun i H2 => t o i v H2 fun H3 => Q σ H3
theorem pg_sub {o i : Expr} {to ti : TE} {t : TSet} (ho : PE X o to) (hi : PE X i ti) (hs : PSet X t)
    (ha : ∀ v, assign (.Subscript o i pos) X.env v = (do
      let ov ← holding [v] (eval o X.env)
      let iv ← holding [v, ov] (eval i X.env)
      standAt pos
      holding [v, ov, iv] (setItem ov iv v)
      release [v, ov, iv] []) := by intro _; rfl) : PG X (.Subscript o i pos) (gSub to ti t) := by
  intro pins s σ H v u Q I r h
  rw [ha]
  refine wpAny_bind (wpAny_holding (thn (ho pins s σ H _ I h) fun ov s1 ⟨x, H1, I1, r1, q1⟩ => ?_))
  refine wpAny_bind (wpAny_holding (thn (hi pins s1 σ H1 _ I1 q1) fun iv s2 ⟨y, H2, I2, r2, q2⟩ => ?_))
  refine wpAny_bind (wpAny_standAt (wpAny_bind (wpAny_holding (thn (hs pins s2 σ H2 x y v ov iv u _ I2 r1 r2 r q2) fun _ s3 ⟨H3, I3, q3⟩ => ?_))))
  exact wpAny_release ⟨σ, H3, I3, q3⟩
/-- target = value -/
def tAsg (te : TE) (g : TG) : TS := fun D σ H => te σ H fun x H1 => g x σ H1 D.nx
theorem ps_asg {tg e : Expr} {te : TE} {g : TG} (he : PE X e te) (hg : PG X tg g) (hs : swapsWithSole [tg] e pos.line X.env = pure false := by rfl) (hw : swappedStores [tg] e X.env = pure none := by rfl)
    (h1 : (assignEach [tg] X.env).map (·.2) = [assign tg X.env] := by rfl) : PS X (.Assign [tg] e pos) (tAsg te g) := by
  intro pins s σ H D I h
  refine wpAny_Assign_stores (thn (he pins s σ H _ I h) fun v s1 ⟨x, H1, I1, r1, q1⟩ => ?_) hs hw
  rw [h1]
  exact thn (hg pins s1 σ H1 x v _ I1 r1 q1) fun _ s2 q => q
/-- name = value -/
theorem ps_set {i : Nat} {x : Str} {e : Expr} {te : TE} {pos' : Pos} (hN : X.N.Nodup) (hi : X.N[i]? = some x) (hx : Loc X.env.scope x) (he : PE X e te) (hs : swapsWith e (some (.Name x pos')) pos.line X.env = pure false := by rfl) (hf : X.fn x = true ∨ X.env.scope.names.lookup x = some .local := by first | exact .inl rfl | exact .inr rfl | assumption) :
    PS X (.Assign [.Name x pos'] e pos) (tAsg te (gName i)) := by
  intro pins s σ H D I h
  refine wpAny_Assign_Name (thn (he pins s σ H _ I h) fun v s1 ⟨y, H1, I1, r1, q1⟩ => ?_) hs
  exact store_ok I1 hN hi hx r1 (fun s2 I2 => ⟨_, H1, I2, q1⟩) hf
end

/-! ### while -/
section
variable {X : Cx} {pos : Pos}
/-- the invariant W with its measure -/
def tWhile (c : TT) (tb : TS) : TS := fun D σ H => ∃ W : Nat → St → Hp → Prop, (∃ m, W m σ H) ∧ ∀ m σ H, W m σ H →
  c σ H fun b H1 => if b = true then ∃ N : St → Hp → Prop, (∀ σ' H', N σ' H' → ∃ m', m' < m ∧ W m' σ' H') ∧ tb { D with nx := N, ct := N, bk := D.nx } σ H1 else D.nx σ H1
theorem ps_while {c : Expr} {body : List Stmt} {tc : TT} {tb : TS} (hp : PassesOwn (model X.prog X.w) X.A X.env X.xe) (hc : PT X c tc) (hb : PSs X body tb) : PS X (.While c body [] pos) (tWhile tc tb) := by
  intro pins s σ H D I h
  obtain ⟨W, ⟨m0, w0⟩, turn⟩ := h
  refine wpAny_While (codeAny_whileLoop (fun n s' => ∃ σ' H', Inv X pins σ' H' s' ∧ W n σ' H') ?_ m0 ⟨σ, H, I, w0⟩)
  rintro n s1 ⟨σ1, H1, I1, w1⟩
  refine wpAny_passesOwn hp (thn (hc pins s1 σ1 H1 _ I1 (turn n σ1 H1 w1)) fun b s2 ⟨H2, I2, q2⟩ => ?_)
  cases b with
  | true =>
    obtain ⟨N, hN, q2⟩ := q2
    rw [if_pos rfl]
    refine wpAny_passesOwn hp (thn (hb pins s2 σ1 H2 _ I2 q2) fun f s3 q3 => ?_)
    cases f with
    | next =>
      obtain ⟨σ3, H3, I3, n3⟩ := q3
      obtain ⟨m', hm, w3⟩ := hN σ3 H3 n3
      exact ⟨m', hm, σ3, H3, I3, w3⟩
    | cont =>
      obtain ⟨σ3, H3, I3, n3⟩ := q3
      obtain ⟨m', hm, w3⟩ := hN σ3 H3 n3
      exact ⟨m', hm, σ3, H3, I3, w3⟩
    | brk => exact q3
    | ret v => exact q3
  | false =>
    rw [if_neg Bool.false_ne_true]
    exact wpAny_execs_nil ⟨σ1, H2, I2, q2⟩
end

/-! ### what a loop or a comprehension walks -/
/-- at turn i: it yields x (the heap may grow), or it stops -/
structure It where
  go : Nat → Hp → Prop
  yld : Nat → Hp → V → Hp → Prop
  stop : Nat → Hp → Prop
/-- the iterator's own objects may turn: they are not the frame's, not pinned, younger than the entry (or a comprehension's own) -/
def FpOk (X : Cx) (pins : List (Addr × Obj)) (H : Hp) (b : Addr) : Prop :=
  H b = none ∧ b ≠ X.env.locals ∧ b ∉ X.fs ∧ (b ∈ X.ex ∨ X.s_0.heap.objs.size ≤ b) ∧ (∀ x c, X.env.cells.lookup x = some c → c ≠ b) ∧ ∀ p ∈ X.pn ++ pins, p.1 ≠ b
theorem Inv.fpOk {X : Cx} {pins : List (Addr × Obj)} {σ : St} {H H' : Hp} {s : Shared} {b : Addr} (I : Inv X pins σ H s) (hb : s.heap.objs.size ≤ b) (hn : H' b = none) : FpOk X pins H' b := by
  refine ⟨hn, Nat.ne_of_gt (Nat.lt_of_lt_of_le I.lt hb), I.nofs hb, .inr (Nat.le_trans I.sz hb), fun x c e z => ?_, fun p hp z => ?_⟩
  · obtain ⟨v, q⟩ := I.cell x c e
    exact absurd (Nat.lt_of_lt_of_le q.lt (by rw [z]; exact hb)) (Nat.lt_irrefl _)
  · exact absurd (Nat.lt_of_lt_of_le (Heap.lt_size (I.pin p hp).1) (by rw [z]; exact hb)) (Nat.lt_irrefl _)
structure Turn (P : Program) (w : World) (K : PySem.W.Frag) (tg : Expr) (J : It) (fp : List Addr) (it : Addr) (tn : Nat → Heap → Prop) : Prop where
  mem : it ∈ fp
  obj : ∀ i h, tn i h → ∀ b ∈ fp, ∃ o, h.get? b = some o ∧ ∀ v, o.data ≠ .cell v
  keep : ∀ i h h', tn i h → (∀ b ∈ fp, ∀ o, h.get? b = some o → h'.get? b = some o) → tn i h'
  item : ∀ (X : Cx), X.prog = P → X.w = w → X.K = K → X.calm = true → ∀ (i : Nat) (pins : List (Addr × Obj)) (s : Shared) (σ : St) (H : Hp) (E : Value → Shared → Prop), Inv X pins σ H s → (∀ b ∈ fp, FpOk X pins H b) → tn i s.heap → J.go i H →
    wpAny (model P w) X.A (pyNext (.ref it)) (fun r s1 => ∃ u, r = some u ∧
      wpAny (model P w) X.A (letOwnedTupleGo tg (.ref it) u) (fun _ s2 => ∃ x H', Inv X pins σ H' s2 ∧ RelV x u ∧ J.yld i H x H' ∧ tn (i + 1) s2.heap ∧ ∀ b ∈ fp, H' b = none) E s1) E s
  done : ∀ (X : Cx), X.prog = P → X.w = w → X.K = K → X.calm = true → ∀ (i : Nat) (pins : List (Addr × Obj)) (s : Shared) (σ : St) (H : Hp) (E : Value → Shared → Prop), Inv X pins σ H s → (∀ b ∈ fp, FpOk X pins H b) → tn i s.heap → J.stop i H →
    wpAny (model P w) X.A (pyNext (.ref it)) (fun r s1 => r = none ∧ Inv X pins σ H s1) E s
  self : ∀ (A : Around) (i : Nat) (s : Shared) (Q : Value → Shared → Prop) (E : Value → Shared → Prop), tn i s.heap → Q (.ref it) s → wpAny (model P w) A (pyIter (.ref it)) Q E s
abbrev TI := St → Hp → (It → Hp → Prop) → Prop
/-- an iterator has come -/
def PIE (X : Cx) (pins : List (Addr × Obj)) (σ : St) (tg : Expr) (R : It → Hp → Prop) (itv : Value) (s2 : Shared) : Prop :=
  ∃ (it : Addr) (fp : List Addr) (tn : Nat → Heap → Prop) (J : It) (H' : Hp), itv = .ref it ∧ Inv X pins σ H' s2 ∧ Turn X.prog X.w X.K tg J fp it tn ∧ tn 0 s2.heap ∧ (∀ b ∈ fp, FpOk X pins H' b) ∧ R J H'
def PI (X : Cx) (tg iter : Expr) (wi : TI) : Prop :=
  ∀ (pins : List (Addr × Obj)) (s : Shared) (σ : St) (H : Hp) (R : It → Hp → Prop), Inv X pins σ H s → wi σ H R →
    wpAny (model X.prog X.w) X.A (eval iter X.env) (fun v s1 => wpAny (model X.prog X.w) X.A (pyIter v) (PIE X pins σ tg R) X.xe s1) X.xe s

/-- the step ahead of the store is nothing for an iterator that keeps no tuple -/
theorem go_of {M : Model} {A : Around} {E : Value → Shared → Prop} {s : Shared} {tg : Expr} {it : Addr} {u : Value} {o : Obj} {n : String} {vs : Array Value} {Q : Unit → Shared → Prop} (ho : s.heap.get? it = some o) (hc : o.cls = .type n) (hd : o.data = .fields vs)
    (hn : ["enumerate", "zip", "dict_itemiterator", "dict_reverseitemiterator", "odict_iterator", "itertools.zip_longest", "itertools.pairwise"].contains n = false) (hQ : Q () s) : wpAny M A (letOwnedTupleGo tg (.ref it) u) Q E s := by
  unfold letOwnedTupleGo
  cases tg <;> first
    | exact wpAny_pure hQ
    | (cases u <;> first
        | exact wpAny_pure hQ
        | (refine wpAny_bind (wpAny_load ho ?_)
           rw [hc, hd]
           show wpAny M A (if (["enumerate", "zip", "dict_itemiterator", "dict_reverseitemiterator", "odict_iterator", "itertools.zip_longest", "itertools.pairwise"].contains n && vs[0]? == some (rawInt _)) = true then _ else _) Q E s
           rw [if_neg (by intro h; rw [hn, Bool.false_and] at h; cases h)]
           exact wpAny_pure hQ))

/-- the list at a, as it stands at each turn (a loop may append to it) -/
def Itl (K : PySem.W.Frag) (a : Addr) : It :=
  ⟨fun i H => ∃ xs x, SqL K H a xs ∧ xs[i]? = some x, fun i H x H' => H' = H ∧ ∀ xs, SqL K H a xs → xs[i]? = some x, fun i H => ∃ xs, SqL K H a xs ∧ xs.length ≤ i⟩
def Itt (K : PySem.W.Frag) (a : Addr) : It :=
  ⟨fun i H => ∃ xs x, SqT K H a xs ∧ xs[i]? = some x, fun i H x H' => H' = H ∧ ∀ xs, SqT K H a xs → xs[i]? = some x, fun i H => ∃ xs, SqT K H a xs ∧ xs.length ≤ i⟩
/-- lo, lo + 1, .. (n of them) -/
def Itr (lo : Int) (n : Nat) : It := ⟨fun i _ => i < n, fun i H x H' => H' = H ∧ x = .int (lo + i), fun i _ => n ≤ i⟩
theorem turn_list {P : Program} {w : World} {K : PySem.W.Frag} {tg : Expr} (a it : Addr) : Turn P w K tg (Itl K a) [it] it (fun i h => h.IsListIter it a i) where
  mem := by simp
  obj := fun i h st b hb => by
    have e : b = it := by simpa using hb
    subst e
    obtain ⟨o, e, c, d⟩ := st
    exact ⟨o, e, fun v z => by rw [d] at z; cases z⟩
  keep := fun i h h' st k => st.at fun o e => k it (by simp) o e
  item := by
    intro X hP hw hK hc i pins s σ H E I hf st hg
    subst hP hw hK
    obtain ⟨xs, x, hq, hx⟩ := hg
    obtain ⟨its, rv, p, hz⟩ := I.list hq
    obtain ⟨u, hu, ru⟩ := rv.get hx
    obtain ⟨f0, f1, f2, f3, f4, f5⟩ := hf it (by simp)
    refine wpAny_pyNext_list_item st p.isList (x := u) (by simpa using hu) fun h' st' sb => ?_
    have I1 : Inv X pins σ H { s with heap := h' } := I.turned (t' := s.toks) (fun b o hb e => (sb.2 b hb).trans e) f0 f1 f3 f4 f5
    obtain ⟨o, e, c, d⟩ := id st'
    exact ⟨u, rfl, go_of (s := { s with heap := h' }) e c d (by decide) ⟨x, H, I1, ru, ⟨rfl, fun ys hy => by rw [I.list_inj hy hq]; exact hx⟩, st', fun b hb => (hf b hb).1⟩⟩
  done := by
    intro X hP hw hK hc i pins s σ H E I hf st hg
    subst hP hw hK
    obtain ⟨xs, hq, hx⟩ := hg
    obtain ⟨its, rv, p, hz⟩ := I.list hq
    obtain ⟨f0, f1, f2, f3, f4, f5⟩ := hf it (by simp)
    have hl := rv.length
    exact wpAny_pyNext_list_end (I.ok.hd hc) st p.isList (by simp; omega) fun h' eb => ⟨rfl, I.turned (t' := s.toks) (fun b o hb e => eb b o hb e) f0 f1 f3 f4 f5⟩
  self := fun _ _ _ _ _ st h => wpAny_pyIter_listiter st h
theorem turn_tuple {P : Program} {w : World} {K : PySem.W.Frag} {tg : Expr} (a it : Addr) : Turn P w K tg (Itt K a) [it] it (fun i h => h.IsTupleIter it a i) where
  mem := by simp
  obj := fun i h st b hb => by
    have e : b = it := by simpa using hb
    subst e
    obtain ⟨o, e, c, d⟩ := st
    exact ⟨o, e, fun v z => by rw [d] at z; cases z⟩
  keep := fun i h h' st k => st.at fun o e => k it (by simp) o e
  item := by
    intro X hP hw hK hc i pins s σ H E I hf st hg
    subst hP hw hK
    obtain ⟨xs, x, hq, hx⟩ := hg
    obtain ⟨its, rv, p, hz⟩ := I.tuple hq
    obtain ⟨u, hu, ru⟩ := rv.get hx
    obtain ⟨f0, f1, f2, f3, f4, f5⟩ := hf it (by simp)
    refine wpAny_pyNext_tuple_item st (show s.heap.IsTuple a its.toArray from p) (x := u) (by simpa using hu) fun h' st' sb => ?_
    have I1 : Inv X pins σ H { s with heap := h' } := I.turned (t' := s.toks) (fun b o hb e => (sb.2 b hb).trans e) f0 f1 f3 f4 f5
    obtain ⟨o, e, c, d⟩ := id st'
    exact ⟨u, rfl, go_of (s := { s with heap := h' }) e c d (by decide) ⟨x, H, I1, ru, ⟨rfl, fun ys hy => by rw [I.tuple_inj hy hq]; exact hx⟩, st', fun b hb => (hf b hb).1⟩⟩
  done := by
    intro X hP hw hK hc i pins s σ H E I hf st hg
    subst hP hw hK
    obtain ⟨xs, hq, hx⟩ := hg
    obtain ⟨its, rv, p, hz⟩ := I.tuple hq
    obtain ⟨f0, f1, f2, f3, f4, f5⟩ := hf it (by simp)
    have hl := rv.length
    exact wpAny_pyNext_tuple_end (I.ok.hd hc) st (show s.heap.IsTuple a its.toArray from p) (by simp; omega) fun h' eb => ⟨rfl, I.turned (t' := s.toks) (fun b o hb e => eb b o hb e) f0 f1 f3 f4 f5⟩
  self := fun _ _ _ _ _ st h => wpAny_pyIter_tupleiter st h
theorem turn_range {P : Program} {w : World} {K : PySem.W.Frag} {tg : Expr} (it : Addr) (lo : Int) (n : Nat) : Turn P w K tg (Itr lo n) [it] it (fun i h => IsRangeIter h it (lo + (i : Nat) * 1) ((n : Int) - (i : Nat)) 1) where
  mem := by simp
  obj := fun i h st b hb => by
    have e : b = it := by simpa using hb
    subst e
    exact ⟨_, st, fun v z => by
      have z' : Data.fields _ = Data.cell v := z
      cases z'⟩
  keep := fun i h h' st k => k it (by simp) _ st
  item := by
    intro X hP hw hK hc i pins s σ H E I hf st hg
    subst hP hw hK
    obtain ⟨f0, f1, f2, f3, f4, f5⟩ := hf it (by simp)
    have W := Walks.range (prog := X.prog) (w := X.w) (I.ok.hd hc) it lo 1 n
    refine W.item i s _ _ hg st fun v h' tk hv st' kk => ?_
    obtain ⟨t, rfl⟩ := hv
    have I1 : Inv X pins σ H { s with heap := h', toks := tk } := I.turned (fun b o hb e => kk b o (by simpa using hb) e) f0 f1 f3 f4 f5
    refine ⟨_, rfl, go_of (s := { s with heap := h', toks := tk }) (n := "range_iterator") st' rfl rfl (by decide) ⟨.int (lo + i), H, I1, ⟨t, ?_⟩, ⟨rfl, rfl⟩, st', fun b hb => (hf b hb).1⟩⟩
    rw [Int.mul_one]
  done := by
    intro X hP hw hK hc i pins s σ H E I hf st hg
    subst hP hw hK
    obtain ⟨f0, f1, f2, f3, f4, f5⟩ := hf it (by simp)
    exact wpAny_pyNext_range_end (I.ok.hd hc) st (by have : n ≤ i := hg; omega) fun h' eb => ⟨rfl, I.turned (t' := s.toks) (fun b o hb e => eb b o hb e) f0 f1 f3 f4 f5⟩
  self := fun _ _ _ _ _ st h => wpAny_pyIter_rangeiter st h
end L2

namespace L2
open PySem PySem.Spec PyProof.Rows
section
variable {X : Cx} {tg : Expr}
def iList (K : PySem.W.Frag) (tl : TE) : TI := fun σ H R => tl σ H fun x H1 => ∃ a, x = .ref a ∧ (∃ xs, SqL K H1 a xs) ∧ R (Itl K a) H1
def iTup (K : PySem.W.Frag) (tl : TE) : TI := fun σ H R => tl σ H fun x H1 => ∃ a, x = .ref a ∧ (∃ xs, SqT K H1 a xs) ∧ R (Itt K a) H1
theorem pi_list {l : Expr} {tl : TE} (hl : PE X l tl) : PI X tg l (iList X.K tl) := by
  intro pins s σ H R I h
  refine thn (hl pins s σ H _ I h) fun v s1 ⟨x, H1, I1, r1, q1⟩ => ?_
  obtain ⟨a, e, ⟨xs, hq⟩, q⟩ := q1
  subst e
  cases r1
  obtain ⟨its, rv, p, hz⟩ := I1.list hq
  refine wpAny_pyIter_list p.isList ?_
  refine ⟨s1.heap.objs.size, [s1.heap.objs.size], _, _, H1, rfl, I1.kept (t' := s1.toks) fun b o e => Heap.get?_push_of_some _ e, turn_list a _, ⟨_, Heap.get?_push_size _ rfl, rfl, rfl⟩, fun b hb => ?_, q⟩
  have e : b = s1.heap.objs.size := by simpa using hb
  subst e
  exact I1.fpOk (Nat.le_refl _) (I1.hok.fresh (Nat.le_refl _))
theorem pi_tup {l : Expr} {tl : TE} (hl : PE X l tl) : PI X tg l (iTup X.K tl) := by
  intro pins s σ H R I h
  refine thn (hl pins s σ H _ I h) fun v s1 ⟨x, H1, I1, r1, q1⟩ => ?_
  obtain ⟨a, e, ⟨xs, hq⟩, q⟩ := q1
  subst e
  cases r1
  obtain ⟨its, rv, p, hz⟩ := I1.tuple hq
  refine wpAny_pyIter_tuple (show s1.heap.IsTuple a its.toArray from p) ?_
  refine ⟨s1.heap.objs.size, [s1.heap.objs.size], _, _, H1, rfl, I1.kept (t' := s1.toks) fun b o e => Heap.get?_push_of_some _ e, turn_tuple a _, ⟨_, Heap.get?_push_size _ rfl, rfl, rfl⟩, fun b hb => ?_, q⟩
  have e : b = s1.heap.objs.size := by simpa using hb
  subst e
  exact I1.fpOk (Nat.le_refl _) (I1.hok.fresh (Nat.le_refl _))
/-- a range object just made, walked -/
theorem range_it {pins : List (Addr × Obj)} {σ : St} {H : Hp} {s : Shared} {R : It → Hp → Prop} {E : Value → Shared → Prop} {lo hi : Int} {t u v : Tok} {tk : Nat} (I : Inv X pins σ H s) (h1 : -(2 ^ 62) ≤ lo) (h2 : lo < 2 ^ 62) (h3 : -(2 ^ 62) ≤ hi) (h4 : hi < 2 ^ 62)
    (q : R (Itr lo (hi - lo).toNat) H) : wpAny (model X.prog X.w) X.A (pyIter (.ref s.heap.objs.size)) (PIE X pins σ tg R) E { s with heap := s.heap.push { cls := .type "range", data := .fields #[.int lo t, .int hi u, .int 1 v] }, toks := tk } := by
  refine wpAny_pyIter_range (IsRange.new ..) (small_one h1 h2 h3 h4) ?_
  have I1 : Inv X pins σ H { s with heap := s.heap.push { cls := .type "range", data := .fields #[.int lo t, .int hi u, .int 1 v] }, toks := tk } := I.kept fun b o e => Heap.get?_push_of_some _ e
  refine ⟨(s.heap.push { cls := .type "range", data := .fields #[.int lo t, .int hi u, .int 1 v] }).objs.size, [(s.heap.push { cls := .type "range", data := .fields #[.int lo t, .int hi u, .int 1 v] }).objs.size], _, _, H, rfl,
    I1.kept (t' := tk) fun b o e => Heap.get?_push_of_some _ e, turn_range _ lo (hi - lo).toNat, ?_, fun b hb => ?_, q⟩
  · have e1 : lo + ((0 : Nat) : Int) * 1 = lo := by simp
    have e2 : (((hi - lo).toNat : Nat) : Int) - ((0 : Nat) : Int) = Builtin.Range.rangeSize lo hi 1 := by rw [rangeSize_one]; split <;> omega
    show IsRangeIter _ _ (lo + ((0 : Nat) : Int) * 1) ((((hi - lo).toNat : Nat) : Int) - ((0 : Nat) : Int)) 1
    rw [e1, e2]
    exact Heap.get?_push_size _ rfl
  · have e : b = (s.heap.push { cls := .type "range", data := .fields #[.int lo t, .int hi u, .int 1 v] }).objs.size := by simpa using hb
    subst e
    exact I1.fpOk (Nat.le_refl _) (I1.hok.fresh (Nat.le_refl _))
def iRng1 (ta : TA) : TI := fun σ H R => ta σ H fun vs H1 => ∃ j : Int, vs = [.int j] ∧ -(2 ^ 62) ≤ j ∧ j < 2 ^ 62 ∧ R (Itr 0 j.toNat) H1
def iRng2 (ta : TA) : TI := fun σ H R => ta σ H fun vs H1 => ∃ i j : Int, vs = [.int i, .int j] ∧ (-(2 ^ 62) ≤ i ∧ i < 2 ^ 62 ∧ -(2 ^ 62) ≤ j ∧ j < 2 ^ 62) ∧ R (Itr i (j - i).toNat) H1
theorem pi_range1 {a : Expr} {ta : TA} {p pos : Pos} (hg : Gl X "range") (hm : X.mg "range" = none) (ha : PA X [a] ta) (hs : starEach [a] X.env = [(false, eval a X.env)] := by rfl) : PI X tg (.Call (.Name "range" p) [a] [] pos) (iRng1 ta) := by
  intro pins s σ H R I h
  refine Call_ (ld_blt I hg hm boot_range (PyProof.Rows.callWith_type1 (thn (ha pos pins s σ H _ I h) fun us s1 ⟨vs, H1, I1, r1, q1⟩ => ?_) hs rfl))
  obtain ⟨j, e, q1, q2, q⟩ := q1
  subst e
  cases r1 with
  | cons r rr =>
    cases rr
    obtain ⟨t, rfl⟩ := r
    exact call_range_1 (range_it I1 (by omega) (by omega) q1 q2 (by simpa using q))
theorem pi_range2 {a b : Expr} {ta : TA} {p pos : Pos} (hg : Gl X "range") (hm : X.mg "range" = none) (ha : PA X [a, b] ta) (hs : starEach [a, b] X.env = [(false, eval a X.env), (false, eval b X.env)] := by rfl) (hs2 : starEach [b] X.env = [(false, eval b X.env)] := by rfl) :
    PI X tg (.Call (.Name "range" p) [a, b] [] pos) (iRng2 ta) := by
  intro pins s σ H R I h
  refine Call_ (ld_blt I hg hm boot_range (PyProof.Rows.callWith_type1 (thn (ha pos pins s σ H _ I h) fun us s1 ⟨vs, H1, I1, r1, q1⟩ => ?_) (by rw [hs, hs2]) (by rw [hs2]; rfl)))
  obtain ⟨i, j, e, ⟨q1, q2, q3, q4⟩, q⟩ := q1
  subst e
  cases r1 with
  | cons r rr =>
    cases rr with
    | cons r' rr =>
      cases rr
      obtain ⟨t, rfl⟩ := r
      obtain ⟨t', rfl⟩ := r'
      exact call_range_2 (range_it I1 q1 q2 q3 q4 q)

/-! ### for -/
/-- W: the invariant by the turn and a measure; N: what the body is to reach -/
def tFor (wi : TI) (g : TG) (tb : TS) : TS := fun D σ H => wi σ H fun J H1 => ∃ W : Nat → Nat → St → Hp → Prop, (∃ m, W 0 m σ H1) ∧ ∀ i m σ H, W i m σ H →
  (J.stop i H ∧ D.nx σ H) ∨ (J.go i H ∧ ∃ N : St → Hp → Prop, (∀ σ' H', N σ' H' → ∃ m', m' < m ∧ W (i + 1) m' σ' H') ∧ ∀ x H', J.yld i H x H' → g x σ H' fun σ2 H2 => tb { D with nx := N, ct := N, bk := D.nx } σ2 H2)
/-- the records at fp as they stand -/
def pinsAt (fp : List Addr) (h : Heap) : List (Addr × Obj) := fp.filterMap fun b => (h.get? b).map fun o => (b, o)
theorem mem_pinsAt {fp : List Addr} {h : Heap} {b : Addr} {o : Obj} (hb : b ∈ fp) (e : h.get? b = some o) : (b, o) ∈ pinsAt fp h := List.mem_filterMap.mpr ⟨b, hb, by rw [e]; rfl⟩
theorem of_pinsAt {fp : List Addr} {h : Heap} {p : Addr × Obj} (hp : p ∈ pinsAt fp h) : p.1 ∈ fp ∧ h.get? p.1 = some p.2 := by
  obtain ⟨b, hb, e⟩ := List.mem_filterMap.mp hp
  cases q : h.get? b with
  | none => rw [q] at e; cases e
  | some o =>
    rw [q] at e
    have e' : (b, o) = p := Option.some.inj e
    subst e'
    exact ⟨hb, q⟩
theorem Inv.pinned {pins : List (Addr × Obj)} {σ : St} {H : Hp} {s : Shared} {fp : List Addr} (I : Inv X pins σ H s) (hf : ∀ b ∈ fp, FpOk X pins H b) (ho : ∀ b ∈ fp, ∃ o, s.heap.get? b = some o ∧ ∀ v, o.data ≠ .cell v) : Inv X (pins ++ pinsAt fp s.heap) σ H s :=
  I.pins_of fun p hp => (List.mem_append.mp hp).elim (fun z => I.pin p (List.mem_append_right _ z)) fun z => by
    obtain ⟨hb, e⟩ := of_pinsAt z
    obtain ⟨f0, f1, f2, _⟩ := hf p.1 hb
    obtain ⟨o, e', d⟩ := ho p.1 hb
    rw [e] at e'; cases e'
    exact ⟨e, f0, f1, f2, d⟩
theorem Inv.unpinned {pins pl : List (Addr × Obj)} {σ : St} {H : Hp} {s : Shared} (I : Inv X (pins ++ pl) σ H s) : Inv X pins σ H s := I.pins_of fun p hp => I.pin p (List.mem_append_right _ (List.mem_append_left _ hp))
theorem ps_for {iter : Expr} {body : List Stmt} {wi : TI} {g : TG} {tb : TS} {pos : Pos} (hp : PassesOwn (model X.prog X.w) X.A X.env X.xe) (hc : X.calm = true) (hi : PI X tg iter wi) (hg : PG X tg g) (hb : PSs X body tb)
    (hs : ∀ x, foldedSetIterable iter X.env x = pure x := by intro _; rfl) : PS X (.For tg iter body [] pos) (tFor wi g tb) := by
  intro pins s σ H D I h
  refine wpAny_For (thn (hi pins s σ H _ I h) fun v s1 h1 => thn h1 fun itv s2 h2 => ?_) hs
  obtain ⟨it, fp, tn, J, H2, e, I2, T, st2, f2, W, ⟨m0, w0⟩, turn⟩ := h2
  subst e
  -- what stays true of the iterator's objects through the loop
  have stat : ∀ {H' : Hp}, (∀ b ∈ fp, H' b = none) → ∀ b ∈ fp, FpOk X pins H' b := fun hn b hb => ⟨hn b hb, (f2 b hb).2⟩
  refine codeAny_forLoop_any (fun n s' => ∃ i σ' H', Inv X pins σ' H' s' ∧ tn i s'.heap ∧ (∀ b ∈ fp, H' b = none) ∧ W i n σ' H') ?_ m0 ⟨0, σ, H2, I2, st2, fun b hb => (f2 b hb).1, w0⟩
  rintro n s3 ⟨i, σ3, H3, I3, st3, fr3, w3⟩
  rcases turn i n σ3 H3 w3 with ⟨stop, qn⟩ | ⟨go, N, hN, step⟩
  · refine wpAny_passesOwn hp (thn (T.done X rfl rfl rfl hc i pins s3 σ3 H3 X.xe I3 (stat fr3) st3 stop) fun r s4 ⟨hr, I4⟩ => ?_)
    subst hr
    exact wpAny_execs_nil ⟨σ3, H3, I4, qn⟩
  · refine wpAny_passesOwn hp (thn (T.item X rfl rfl rfl hc i pins s3 σ3 H3 X.xe I3 (stat fr3) st3 go) fun r s4 ⟨u, hr, h4⟩ => ?_)
    subst hr
    refine wpAny_passesOwn hp (thn h4 fun _ s5 ⟨x, H5, I5, r5, y5, st5, fr5⟩ => ?_)
    have I5' := I5.pinned (stat fr5) (T.obj _ _ st5)
    refine wpAny_passesOwn hp (thn (hg _ s5 σ3 H5 x u _ I5' r5 (step x H5 y5)) fun _ s6 ⟨σ6, H6, I6, q6⟩ => ?_)
    refine wpAny_passesOwn hp (thn (hb _ s6 σ6 H6 _ I6 q6) fun f s7 q7 => ?_)
    have again : ∀ {σ7 : St} {H7 : Hp}, Inv X (pins ++ pinsAt fp s5.heap) σ7 H7 s7 → N σ7 H7 → ∃ m, m < n ∧ ∃ i σ' H', Inv X pins σ' H' s7 ∧ tn i s7.heap ∧ (∀ b ∈ fp, H' b = none) ∧ W i m σ' H' := fun {σ7 H7} I7 n7 => by
      obtain ⟨m', hm, w7⟩ := hN σ7 H7 n7
      refine ⟨m', hm, i + 1, σ7, H7, I7.unpinned, T.keep _ _ _ st5 fun b hb o e => (I7.pin (b, o) (List.mem_append_right _ (List.mem_append_right _ (mem_pinsAt hb e)))).1, fun b hb => ?_, w7⟩
      obtain ⟨o, e, d⟩ := T.obj _ _ st5 b hb
      exact (I7.pin (b, o) (List.mem_append_right _ (List.mem_append_right _ (mem_pinsAt hb e)))).2.1
    cases f with
    | next => obtain ⟨σ7, H7, I7, n7⟩ := q7; exact again I7 n7
    | cont => obtain ⟨σ7, H7, I7, n7⟩ := q7; exact again I7 n7
    | brk => obtain ⟨σ7, H7, I7, q7⟩ := q7; exact ⟨σ7, H7, I7.unpinned, q7⟩
    | ret v => obtain ⟨x7, σ7, H7, I7, r7, q7⟩ := q7; exact ⟨x7, σ7, H7, I7.unpinned, r7, q7⟩
end

/-! ### the forms one uses -/
/-- over a list that the body leaves as it is -/
theorem for_list {K : PySem.W.Frag} {a : Addr} {xs : List V} {g : TG} {tb : TS} {D : Ends} {σ : St} {H : Hp} (Pv : Nat → St → Hp → Prop) (h0 : Pv 0 σ H) (hl : ∀ i σ H, i ≤ xs.length → Pv i σ H → SqL K H a xs)
    (hs : ∀ i x σ H, xs[i]? = some x → Pv i σ H → g x σ H fun σ2 H2 => tb { D with nx := Pv (i + 1), ct := Pv (i + 1), bk := D.nx } σ2 H2) (hd : ∀ σ H, Pv xs.length σ H → D.nx σ H) :
    ∃ W : Nat → Nat → St → Hp → Prop, (∃ m, W 0 m σ H) ∧ ∀ i m σ H, W i m σ H →
      ((Itl K a).stop i H ∧ D.nx σ H) ∨ ((Itl K a).go i H ∧ ∃ N : St → Hp → Prop, (∀ σ' H', N σ' H' → ∃ m', m' < m ∧ W (i + 1) m' σ' H') ∧ ∀ x H', (Itl K a).yld i H x H' → g x σ H' fun σ2 H2 => tb { D with nx := N, ct := N, bk := D.nx } σ2 H2) := by
  refine ⟨fun i m σ H => m = xs.length - i ∧ i ≤ xs.length ∧ Pv i σ H, ⟨xs.length, by simp, Nat.zero_le _, h0⟩, ?_⟩
  rintro i m σ H ⟨rfl, hi, p⟩
  have q := hl i σ H hi p
  by_cases hlt : i < xs.length
  · refine .inr ⟨⟨xs, xs[i], q, by simp [hlt]⟩, Pv (i + 1), fun σ' H' p' => ⟨xs.length - (i + 1), by omega, rfl, hlt, p'⟩, fun x H' y => ?_⟩
    obtain ⟨e, y⟩ := y
    subst e
    exact hs i x σ _ (y xs q) p
  · have e : i = xs.length := by omega
    subst e
    exact .inl ⟨⟨xs, q, Nat.le_refl _⟩, hd σ H p⟩
theorem for_tup {K : PySem.W.Frag} {a : Addr} {xs : List V} {g : TG} {tb : TS} {D : Ends} {σ : St} {H : Hp} (Pv : Nat → St → Hp → Prop) (h0 : Pv 0 σ H) (hl : ∀ i σ H, i ≤ xs.length → Pv i σ H → SqT K H a xs)
    (hs : ∀ i x σ H, xs[i]? = some x → Pv i σ H → g x σ H fun σ2 H2 => tb { D with nx := Pv (i + 1), ct := Pv (i + 1), bk := D.nx } σ2 H2) (hd : ∀ σ H, Pv xs.length σ H → D.nx σ H) :
    ∃ W : Nat → Nat → St → Hp → Prop, (∃ m, W 0 m σ H) ∧ ∀ i m σ H, W i m σ H →
      ((Itt K a).stop i H ∧ D.nx σ H) ∨ ((Itt K a).go i H ∧ ∃ N : St → Hp → Prop, (∀ σ' H', N σ' H' → ∃ m', m' < m ∧ W (i + 1) m' σ' H') ∧ ∀ x H', (Itt K a).yld i H x H' → g x σ H' fun σ2 H2 => tb { D with nx := N, ct := N, bk := D.nx } σ2 H2) := by
  refine ⟨fun i m σ H => m = xs.length - i ∧ i ≤ xs.length ∧ Pv i σ H, ⟨xs.length, by simp, Nat.zero_le _, h0⟩, ?_⟩
  rintro i m σ H ⟨rfl, hi, p⟩
  have q := hl i σ H hi p
  by_cases hlt : i < xs.length
  · refine .inr ⟨⟨xs, xs[i], q, by simp [hlt]⟩, Pv (i + 1), fun σ' H' p' => ⟨xs.length - (i + 1), by omega, rfl, hlt, p'⟩, fun x H' y => ?_⟩
    obtain ⟨e, y⟩ := y
    subst e
    exact hs i x σ _ (y xs q) p
  · have e : i = xs.length := by omega
    subst e
    exact .inl ⟨⟨xs, q, Nat.le_refl _⟩, hd σ H p⟩
theorem for_range {lo : Int} {n : Nat} {g : TG} {tb : TS} {D : Ends} {σ : St} {H : Hp} (Pv : Nat → St → Hp → Prop) (h0 : Pv 0 σ H)
    (hs : ∀ i σ H, i < n → Pv i σ H → g (.int (lo + i)) σ H fun σ2 H2 => tb { D with nx := Pv (i + 1), ct := Pv (i + 1), bk := D.nx } σ2 H2) (hd : ∀ σ H, Pv n σ H → D.nx σ H) :
    ∃ W : Nat → Nat → St → Hp → Prop, (∃ m, W 0 m σ H) ∧ ∀ i m σ H, W i m σ H →
      ((Itr lo n).stop i H ∧ D.nx σ H) ∨ ((Itr lo n).go i H ∧ ∃ N : St → Hp → Prop, (∀ σ' H', N σ' H' → ∃ m', m' < m ∧ W (i + 1) m' σ' H') ∧ ∀ x H', (Itr lo n).yld i H x H' → g x σ H' fun σ2 H2 => tb { D with nx := N, ct := N, bk := D.nx } σ2 H2) := by
  refine ⟨fun i m σ H => m = n - i ∧ i ≤ n ∧ Pv i σ H, ⟨n, by simp, Nat.zero_le _, h0⟩, ?_⟩
  rintro i m σ H ⟨rfl, hi, p⟩
  by_cases hlt : i < n
  · refine .inr ⟨hlt, Pv (i + 1), fun σ' H' p' => ⟨n - (i + 1), by omega, rfl, hlt, p'⟩, fun x H' y => ?_⟩
    obtain ⟨e, y⟩ := y
    subst e y
    exact hs i σ _ hlt p
  · have e : i = n := by omega
    subst e
    exact .inl ⟨Nat.le_refl _, hd σ H p⟩
/-- while, by a word and a measure of the state -/
theorem while_by {c : TT} {tb : TS} {D : Ends} {σ : St} {H : Hp} (Pv : St → Hp → Prop) (μ : St → Hp → Nat) (h0 : Pv σ H)
    (hs : ∀ σ H, Pv σ H → c σ H fun b H1 => if b = true then tb { D with nx := fun σ' H' => Pv σ' H' ∧ μ σ' H' < μ σ H, ct := fun σ' H' => Pv σ' H' ∧ μ σ' H' < μ σ H, bk := D.nx } σ H1 else D.nx σ H1)
    (mono : ∀ σ H Q Q', (∀ b H1, Q b H1 → Q' b H1) → c σ H Q → c σ H Q') : tWhile c tb D σ H := by
  refine ⟨fun m σ H => m = μ σ H ∧ Pv σ H, ⟨_, rfl, h0⟩, ?_⟩
  rintro m σ H ⟨rfl, p⟩
  refine mono σ H _ _ (fun b H1 q => ?_) (hs σ H p)
  cases b with
  | true => exact ⟨_, fun σ' H' ⟨p', l⟩ => ⟨_, l, rfl, p'⟩, q⟩
  | false => exact q
end L2

namespace L2
open PySem PySem.Spec PyProof.Rows

abbrev R2 := V → V → Hp → VK → Prop
/-- a two-place operation on values: f is binaryOp op, inplaceOp op or compareOp op -/
def OpR (X : Cx) (f : Value → Value → Sem Value) (r : R2) : Prop :=
  ∀ (pins : List (Addr × Obj)) (s : Shared) (σ : St) (H : Hp) (x y : V) (v u : Value) (Q : VK), Inv X pins σ H s → RelV x v → RelV y u → r x y H Q →
    wpAny (model X.prog X.w) X.A (f v u) (EP X pins σ Q) X.xe s
/-- a one-place operation -/
def UnR (X : Cx) (f : Value → Sem Value) (r : V → Hp → VK → Prop) : Prop :=
  ∀ (pins : List (Addr × Obj)) (s : Shared) (σ : St) (H : Hp) (x : V) (v : Value) (Q : VK), Inv X pins σ H s → RelV x v → r x H Q →
    wpAny (model X.prog X.w) X.A (f v) (EP X pins σ Q) X.xe s
/-- a call of a value that is known (a builtin, a type) with values -/
def CallR (X : Cx) (f : Value) (r : List V → Hp → VK → Prop) : Prop :=
  ∀ (pins : List (Addr × Obj)) (s : Shared) (σ : St) (H : Hp) (xs : List V) (us : List Value) (Q : VK), Inv X pins σ H s → Vals xs us → r xs H Q →
    wpAny (model X.prog X.w) X.A (call f us) (EP X pins σ Q) X.xe s

def tOp (r : R2) (ta tb : TE) : TE := fun σ H Q => ta σ H fun x H1 => tb σ H1 fun y H2 => r x y H2 Q
def tUn (r : V → Hp → VK → Prop) (ta : TE) : TE := fun σ H Q => ta σ H fun x H1 => r x H1 Q
/-- ints in, under C, and a value out -/
def rI (C : Int → Int → Prop) (g : Int → Int → V) : R2 := fun x y H Q => ∃ i j, x = .int i ∧ y = .int j ∧ C i j ∧ Q (g i j) H
def rI0 (g : Int → Int → V) : R2 := fun x y H Q => ∃ i j, x = .int i ∧ y = .int j ∧ Q (g i j) H
def rU (g : Int → V) : V → Hp → VK → Prop := fun x H Q => ∃ i, x = .int i ∧ Q (g i) H

section
variable {X : Cx} {a b c : Expr} {ta tb tc : TE} {pos : Pos}

theorem binT (ha : PE X a ta) (hb : PE X b tb) {pins : List (Addr × Obj)} {s : Shared} {σ : St} {H : Hp} {R : V → V → Hp → Prop} (I : Inv X pins σ H s)
    (h : ta σ H fun x H1 => tb σ H1 fun y H2 => R x y H2) {Q : Value → Shared → Prop} {f : Value → Value → Sem Value}
    (hf : ∀ v u s2 x y H2, Inv X pins σ H2 s2 → RelV x v → RelV y u → R x y H2 → wpAny (model X.prog X.w) X.A (f v u) Q X.xe s2) :
    wpAny (model X.prog X.w) X.A (eval a X.env) (fun v s₁ => wpAny (model X.prog X.w) X.A (eval b X.env) (fun u s₂ => wpAny (model X.prog X.w) X.A (f v u) Q X.xe s₂) X.xe s₁) X.xe s := by
  refine thn (ha pins s σ H _ I h) fun v s1 ⟨x, H1, I1, r1, q1⟩ => ?_
  refine thn (hb pins s1 σ H1 _ I1 q1) fun u s2 ⟨y, H2, I2, r2, q2⟩ => ?_
  exact hf v u s2 x y H2 I2 r1 r2 q2

theorem pe_op {op : Operator} {r : R2} (ho : OpR X (binaryOp op) r) (ha : PE X a ta) (hb : PE X b tb) : PE X (.BinOp a op b pos) (tOp r ta tb) := by
  intro pins s σ H Q I h
  exact wpAny_BinOp (binT ha hb I h fun v u s2 x y H2 I2 rx ry q => ho pins s2 σ H2 x y v u Q I2 rx ry q)
theorem pe_un {op : UnaryOp} {r : V → Hp → VK → Prop} (ho : UnR X (unaryOp op) r) (ha : PE X a ta) : PE X (.UnaryOp op a pos) (tUn r ta) := by
  intro pins s σ H Q I h
  exact UnaryOp_ (thn (ha pins s σ H _ I h) fun v s1 ⟨x, H1, I1, r1, q1⟩ => ho pins s1 σ H1 x v Q I1 r1 q1)

/-! ### ints -/
theorem opI {f : Value → Value → Sem Value} {C : Int → Int → Prop} {g : Int → Int → Int}
    (rule : ∀ (i j : Int) (t u : Tok) (s : Shared) (Q : Value → Shared → Prop) (E : Value → Shared → Prop), C i j → Q (.int (g i j) s.toks) { s with toks := s.toks + 1 } → wpAny (model X.prog X.w) X.A (f (.int i t) (.int j u)) Q E s) :
    OpR X f (rI C fun i j => .int (g i j)) := by
  intro pins s σ H x y v u Q I rx ry h
  obtain ⟨i, j, rfl, rfl, hc, q⟩ := h
  obtain ⟨t, rfl⟩ := rx
  obtain ⟨t', rfl⟩ := ry
  exact rule i j t t' s _ _ hc ⟨.int (g i j), H, I.tok _, ⟨_, rfl⟩, q⟩
theorem opI0 {f : Value → Value → Sem Value} {g : Int → Int → Int}
    (rule : ∀ (i j : Int) (t u : Tok) (s : Shared) (Q : Value → Shared → Prop) (E : Value → Shared → Prop), Q (.int (g i j) s.toks) { s with toks := s.toks + 1 } → wpAny (model X.prog X.w) X.A (f (.int i t) (.int j u)) Q E s) :
    OpR X f (rI0 fun i j => .int (g i j)) := by
  intro pins s σ H x y v u Q I rx ry h
  obtain ⟨i, j, rfl, rfl, q⟩ := h
  obtain ⟨t, rfl⟩ := rx
  obtain ⟨t', rfl⟩ := ry
  exact rule i j t t' s _ _ ⟨.int (g i j), H, I.tok _, ⟨_, rfl⟩, q⟩
theorem opB0 {f : Value → Value → Sem Value} {g : Int → Int → Bool}
    (rule : ∀ (i j : Int) (t u : Tok) (s : Shared) (Q : Value → Shared → Prop) (E : Value → Shared → Prop), Q (.bool (g i j)) s → wpAny (model X.prog X.w) X.A (f (.int i t) (.int j u)) Q E s) :
    OpR X f (rI0 fun i j => .bl (g i j)) := by
  intro pins s σ H x y v u Q I rx ry h
  obtain ⟨i, j, rfl, rfl, q⟩ := h
  obtain ⟨t, rfl⟩ := rx
  obtain ⟨t', rfl⟩ := ry
  exact rule i j t t' s _ _ ⟨.bl (g i j), H, I, rfl, q⟩

def CPow (i j : Int) : Prop := 0 ≤ j ∧ j ≤ 1000000 ∧ i.natAbs < 2 ^ 64
def CMul (i j : Int) : Prop := (-(2 ^ 64) < i ∧ i < 2 ^ 64) ∨ (-(2 ^ 64) < j ∧ j < 2 ^ 64)
theorem CMul.ok {i j : Int} (h : CMul i j) : IntMulOk i j := by
  rcases h with ⟨h1, h2⟩ | ⟨h1, h2⟩
  · exact .of_left (intBits_le_64 h1 h2)
  · exact .of_right (intBits_le_64 h1 h2)

theorem op_add : OpR X (binaryOp .Add) (rI0 fun i j => .int (i + j)) := opI0 fun _ _ _ _ _ _ _ q => add_int q
theorem op_sub : OpR X (binaryOp .Sub) (rI0 fun i j => .int (i - j)) := opI0 fun _ _ _ _ _ _ _ q => sub_int q
theorem op_mul : OpR X (binaryOp .Mult) (rI CMul fun i j => .int (i * j)) := opI fun _ _ _ _ _ _ _ hc q => mul_int q hc.ok
/-- % by a positive divisor of any size -/
theorem op_mod : OpR X (binaryOp .Mod) (rI (fun _ j => 0 < j) fun i j => .int (i % j)) := opI fun i j _ _ _ _ _ hc q => by
  have h1 : (0 : Int) < j := hc
  exact mod_int' (by omega) (by rw [Int.fmod_eq_emod_of_nonneg i (by omega)]; exact q)
theorem op_pow : OpR X (binaryOp .Pow) (rI CPow fun i j => .int (i ^ j.toNat)) := opI fun _ _ _ _ _ _ _ hc q => pow_int_small hc.1 hc.2.1 hc.2.2 q
theorem op_shl : OpR X (binaryOp .LShift) (rI CPow fun i j => .int (i * 2 ^ j.toNat)) := opI fun _ _ _ _ _ _ _ hc q => lshift_int_small hc.1 hc.2.1 hc.2.2 q


theorem unI {f : Value → Sem Value} {g : Int → Int}
    (rule : ∀ (i : Int) (t : Tok) (s : Shared) (Q : Value → Shared → Prop) (E : Value → Shared → Prop), Q (.int (g i) s.toks) { s with toks := s.toks + 1 } → wpAny (model X.prog X.w) X.A (f (.int i t)) Q E s) :
    UnR X f (rU fun i => .int (g i)) := by
  intro pins s σ H x v Q I rx h
  obtain ⟨i, rfl, q⟩ := h
  obtain ⟨t, rfl⟩ := rx
  exact rule i t s _ _ ⟨.int (g i), H, I.tok _, ⟨_, rfl⟩, q⟩
theorem un_neg : UnR X (unaryOp .USub) (rU fun i => .int (-i)) := unI fun _ _ _ _ _ q => neg_int q

/-! ### bools among ints: n += (a < b) -/
end

/-! ### comparisons -/
/-- the scalars that == tells apart as data does -/
def scal : V → V → Bool
  | .non, .non => true | .non, .int _ => true | .int _, .non => true | .non, .bl _ => true | .bl _, .non => true | .non, .str _ => true | .str _, .non => true
  | .int _, .int _ => true | .bl _, .bl _ => true | .str _, .str _ => true | .byt _, .byt _ => true
  | .int _, .str _ => true | .str _, .int _ => true | .bl _, .str _ => true | .str _, .bl _ => true
  | _, _ => false
def rEq : R2 := fun x y H Q => scal x y = true ∧ Q (.bl (decide (x = y))) H
def rNe : R2 := fun x y H Q => scal x y = true ∧ Q (.bl (!decide (x = y))) H

theorem dec_int {i j : Int} : decide (V.int i = V.int j) = (i == j) := by
  rw [Bool.eq_iff_iff]
  simp
theorem dec_bl {i j : Bool} : decide (V.bl i = V.bl j) = (i == j) := by
  rw [Bool.eq_iff_iff]
  simp
theorem dec_str {i j : Str} : decide (V.str i = V.str j) = (i == j) := by
  rw [Bool.eq_iff_iff]
  simp
theorem dec_byt {i j : Array UInt8} : decide (V.byt i = V.byt j) = (i.toList == j.toList) := by
  rw [Bool.eq_iff_iff]
  cases i
  cases j
  simp

section
variable {X : Cx} {a b c : Expr} {ta tb tc : TE} {pos : Pos}
theorem fin_bl {pins : List (Addr × Obj)} {σ : St} {H : Hp} {s : Shared} {Q : VK} {k k' : Bool} (I : Inv X pins σ H s) (q : Q (.bl k) H) (e : k = k') : EP X pins σ Q (.bool k') s := by
  subst e
  exact ⟨.bl k, H, I, rfl, q⟩
theorem op_eq : OpR X (compareOp .Eq) rEq := by
  intro pins s σ H x y v u Q I rx ry h
  obtain ⟨hs, q⟩ := h
  cases x with
  | non =>
    cases rx
    cases y with
    | non => cases ry; exact PySem.EqNone.eq_none_none (fin_bl I q (by simp))
    | bl j => cases ry; exact PySem.EqNone.eq_none_bool (fin_bl I q (by simp))
    | int j => obtain ⟨t', rfl⟩ := ry; exact PySem.EqNone.eq_none_int (fin_bl I q (by simp))
    | str j => obtain ⟨t', rfl⟩ := ry; exact PySem.EqNone.eq_none_str (fin_bl I q (by simp))
    | _ => exact absurd (show false = true from hs) Bool.false_ne_true
  | bl i =>
    cases rx
    cases y with
    | non => cases ry; exact PySem.EqNone.eq_bool_none (fin_bl I q (by simp))
    | bl j => cases ry; exact eq_bool (fin_bl I q dec_bl)
    | str j => obtain ⟨t', rfl⟩ := ry; exact PySem.EqMixed.eq_bool_str (fin_bl I q (by simp))
    | _ => exact absurd (show false = true from hs) Bool.false_ne_true
  | int i =>
    obtain ⟨t, rfl⟩ := rx
    cases y with
    | non => cases ry; exact PySem.EqNone.eq_int_none (fin_bl I q (by simp))
    | int j => obtain ⟨t', rfl⟩ := ry; exact eq_int (fin_bl I q dec_int)
    | str j => obtain ⟨t', rfl⟩ := ry; exact PySem.EqMixed.eq_int_str (fin_bl I q (by simp))
    | _ => exact absurd (show false = true from hs) Bool.false_ne_true
  | str i =>
    obtain ⟨t, rfl⟩ := rx
    cases y with
    | non => cases ry; exact PySem.EqNone.eq_str_none (fin_bl I q (by simp))
    | bl j => cases ry; exact PySem.EqMixed.eq_str_bool (fin_bl I q (by simp))
    | int j => obtain ⟨t', rfl⟩ := ry; exact PySem.EqMixed.eq_str_int (fin_bl I q (by simp))
    | str j => obtain ⟨t', rfl⟩ := ry; exact eq_str (fin_bl I q dec_str)
    | _ => exact absurd (show false = true from hs) Bool.false_ne_true
  | byt i =>
    obtain ⟨t, rfl⟩ := rx
    cases y with
    | byt j => obtain ⟨t', rfl⟩ := ry; exact PySem.W.eq_bytes (fin_bl I q dec_byt)
    | _ => exact absurd (show false = true from hs) Bool.false_ne_true
  | _ => cases y <;> exact absurd (show false = true from hs) Bool.false_ne_true
theorem op_ne : OpR X (compareOp .NotEq) rNe := by
  intro pins s σ H x y v u Q I rx ry h
  obtain ⟨hs, q⟩ := h
  cases x with
  | non =>
    cases rx
    cases y with
    | non => cases ry; exact PySem.EqNone.ne_none_none (fin_bl I q (by simp))
    | bl j => cases ry; exact PySem.EqNone.ne_none_bool (fin_bl I q (by simp))
    | int j => obtain ⟨t', rfl⟩ := ry; exact PySem.EqNone.ne_none_int (fin_bl I q (by simp))
    | str j => obtain ⟨t', rfl⟩ := ry; exact PySem.EqNone.ne_none_str (fin_bl I q (by simp))
    | _ => exact absurd (show false = true from hs) Bool.false_ne_true
  | bl i =>
    cases rx
    cases y with
    | non => cases ry; exact PySem.EqNone.ne_bool_none (fin_bl I q (by simp))
    | bl j => cases ry; exact ne_bool (fin_bl I q (congrArg not dec_bl))
    | str j => obtain ⟨t', rfl⟩ := ry; exact PySem.EqMixed.ne_bool_str (fin_bl I q (by simp))
    | _ => exact absurd (show false = true from hs) Bool.false_ne_true
  | int i =>
    obtain ⟨t, rfl⟩ := rx
    cases y with
    | non => cases ry; exact PySem.EqNone.ne_int_none (fin_bl I q (by simp))
    | int j => obtain ⟨t', rfl⟩ := ry; exact ne_int (fin_bl I q (congrArg not dec_int))
    | str j => obtain ⟨t', rfl⟩ := ry; exact PySem.EqMixed.ne_int_str (fin_bl I q (by simp))
    | _ => exact absurd (show false = true from hs) Bool.false_ne_true
  | str i =>
    obtain ⟨t, rfl⟩ := rx
    cases y with
    | non => cases ry; exact PySem.EqNone.ne_str_none (fin_bl I q (by simp))
    | bl j => cases ry; exact PySem.EqMixed.ne_str_bool (fin_bl I q (by simp))
    | int j => obtain ⟨t', rfl⟩ := ry; exact PySem.EqMixed.ne_str_int (fin_bl I q (by simp))
    | str j => obtain ⟨t', rfl⟩ := ry; exact ne_str (fin_bl I q (congrArg not dec_str))
    | _ => exact absurd (show false = true from hs) Bool.false_ne_true
  | byt i =>
    obtain ⟨t, rfl⟩ := rx
    cases y with
    | byt j => obtain ⟨t', rfl⟩ := ry; exact PySem.W.ne_bytes (fin_bl I q (congrArg not dec_byt))
    | _ => exact absurd (show false = true from hs) Bool.false_ne_true
  | _ => cases y <;> exact absurd (show false = true from hs) Bool.false_ne_true

theorem op_lt : OpR X (compareOp .Lt) (rI0 fun i j => .bl (decide (i < j))) := opB0 fun _ _ _ _ _ _ _ q => lt_int q
theorem op_le : OpR X (compareOp .LtE) (rI0 fun i j => .bl (decide (i ≤ j))) := opB0 fun _ _ _ _ _ _ _ q => le_int q
theorem op_gt : OpR X (compareOp .Gt) (rI0 fun i j => .bl (decide (j < i))) := opB0 fun _ _ _ _ _ _ _ q => gt_int q
theorem op_ge : OpR X (compareOp .GtE) (rI0 fun i j => .bl (decide (j ≤ i))) := opB0 fun _ _ _ _ _ _ _ q => ge_int q

/-- is None, is not None: the right side a value none -/
theorem op_isN : OpR X (compareOp .Is) (fun x y H Q => y = .non ∧ Q (.bl (decide (x = .non))) H) := by
  intro pins s σ H x y v u Q I rx ry h
  obtain ⟨rfl, q⟩ := h
  cases ry
  refine is_none_gen (fin_bl I q ?_)
  cases x <;> first
    | (cases rx; rfl)
    | (obtain ⟨t, rfl⟩ := rx; rfl)
theorem op_notN : OpR X (compareOp .IsNot) (fun x y H Q => y = .non ∧ Q (.bl (!decide (x = .non))) H) := by
  intro pins s σ H x y v u Q I rx ry h
  obtain ⟨rfl, q⟩ := h
  cases ry
  refine isnot_none_gen (fin_bl I q ?_)
  cases x <;> first
    | (cases rx; rfl)
    | (obtain ⟨t, rfl⟩ := rx; rfl)



theorem nomark (b : Expr) {op : CmpOp} (h : op ≠ .In := by decide) (h2 : op ≠ .NotIn := by decide) : behindInMarks op b = false := by
  have e1 : (op == CmpOp.In) = false := by cases op <;> first | rfl | exact absurd rfl h
  have e2 : (op == CmpOp.NotIn) = false := by cases op <;> first | rfl | exact absurd rfl h2
  cases b <;> simp [behindInMarks, e1, e2]
/-- a comparison as a value; hm: nomark b, or (for in, not in) by with_unfolding_all rfl -/
theorem pe_cmpR {op : CmpOp} {r : R2} (ho : OpR X (compareOp op) r) (ha : PE X a ta) (hb : PE X b tb) (hm : behindInMarks op b = false) : PE X (.Compare a [op] [b] pos) (tOp r ta tb) := by
  intro pins s σ H Q I h
  exact wpAny_Compare1 (binT ha hb I h fun v u s2 x y H2 I2 rx ry q => ho pins s2 σ H2 x y v u Q I2 rx ry q) hm
/-- a reading of a value as a test -/
def tTest (t : TE) : TT := fun σ H Q => t σ H fun x H' => ∃ k, x = .bl k ∧ Q k H'
theorem pt_cmpR {op : CmpOp} {r : R2} (ho : OpR X (compareOp op) r) (ha : PE X a ta) (hb : PE X b tb) (hm : behindInMarks op b = false) : PT X (.Compare a [op] [b] pos) (tTest (tOp r ta tb)) := by
  intro pins s σ H Q I h
  refine wpAny_isTrue_Compare1 (thn (ha pins s σ H _ I h) fun v s1 ⟨x, H1, I1, r1, q1⟩ => thn (hb pins s1 σ H1 _ I1 q1) fun u s2 ⟨y, H2, I2, r2, q2⟩ =>
    thn (ho pins s2 σ H2 x y v u _ I2 r1 r2 q2) fun c s3 ⟨z, H3, I3, r3, k, e, q3⟩ => ?_) hm
  subst e
  cases r3
  exact wpAny_truthy_bool ⟨H3, I3, q3⟩
/-- a op1 b op2 c -/
def tChain (r r' : R2) (ta tb tc : TE) : TE := fun σ H Q => ta σ H fun x H1 => tb σ H1 fun y H2 => r x y H2 fun z H3 => ∃ k, z = .bl k ∧
  (if k = true then tc σ H3 fun w' H4 => r' y w' H4 Q else Q (.bl false) H3)
theorem pe_chain {op op' : CmpOp} {r r' : R2} (ho : OpR X (compareOp op) r) (ho' : OpR X (compareOp op') r') (ha : PE X a ta) (hb : PE X b tb) (hc : PE X c tc)
    (hm : lastMarks [op, op'] [b, c] = false := by with_unfolding_all rfl) : PE X (.Compare a [op, op'] [b, c] pos) (tChain r r' ta tb tc) := by
  intro pins s σ H Q I h
  refine Compare_chain (thn (ha pins s σ H _ I h) fun v s1 ⟨x, H1, I1, r1, q1⟩ => chain_link (thn (hb pins s1 σ H1 _ I1 q1) fun u s2 ⟨y, H2, I2, r2, q2⟩ =>
    thn (ho pins s2 σ H2 x y v u _ I2 r1 r2 q2) fun d s3 ⟨z, H3, I3, r3, k, e, q3⟩ => ?_)) hm
  subst e
  cases r3
  refine wpAny_truthy_bool ?_
  cases k with
  | false => exact ite_ff ⟨.bl false, H3, I3, rfl, q3⟩
  | true => exact ite_tt (chain_last (thn (hc pins s3 σ H3 _ I3 q3) fun w' s4 ⟨z', H4, I4, r4, q4⟩ => ho' pins s4 σ H4 y z' u w' Q I4 r2 r4 q4))

/-! ### truth -/
theorem line63 : (sizeLine : Nat) < 2 ^ 63 := by rw [sizeLine_eq]; decide

/-! ### strs and bytes -/


/-! ### scalar builtins, by CallR -/
theorem vals1 {x : V} {us : List Value} (r : Vals [x] us) : ∃ u, us = [u] ∧ RelV x u := by
  cases r with
  | cons r1 r2 => cases r2; exact ⟨_, rfl, r1⟩
theorem vals2 {x y : V} {us : List Value} (r : Vals [x, y] us) : ∃ u w', us = [u, w'] ∧ RelV x u ∧ RelV y w' := by
  cases r with
  | cons r1 r2 =>
    cases r2 with
    | cons r3 r4 => cases r4; exact ⟨_, _, rfl, r1, r3⟩
theorem call_abs : CallR X (.builtin "abs") (fun xs H Q => ∃ i, xs = [.int i] ∧ Q (.int (if i < 0 then -i else i)) H) := by
  intro pins s σ H xs us Q I r h
  obtain ⟨i, rfl, q⟩ := h
  obtain ⟨u, rfl, t, rfl⟩ := vals1 r
  exact call_abs_int fun u tk => ⟨.int (if i < 0 then -i else i), H, I.tok _, ⟨_, rfl⟩, q⟩
theorem call_max2 (hc : X.calm = true) : CallR X (.builtin "max") (fun xs H Q => ∃ i j, xs = [.int i, .int j] ∧ Q (.int (if j > i then j else i)) H) := by
  intro pins s σ H xs us Q I r h
  obtain ⟨i, j, rfl, q⟩ := h
  obtain ⟨u, w', rfl, ⟨t, rfl⟩, ⟨t', rfl⟩⟩ := vals2 r
  refine max_two_ints (I.ok.hd hc) fun h' tk k => ⟨_, H, I.kept k, ?_, q⟩
  by_cases hj : j > i
  · rw [if_pos hj, if_pos hj]; exact ⟨_, rfl⟩
  · rw [if_neg hj, if_neg hj]; exact ⟨_, rfl⟩
theorem call_min2 (hc : X.calm = true) : CallR X (.builtin "min") (fun xs H Q => ∃ i j, xs = [.int i, .int j] ∧ Q (.int (if j < i then j else i)) H) := by
  intro pins s σ H xs us Q I r h
  obtain ⟨i, j, rfl, q⟩ := h
  obtain ⟨u, w', rfl, ⟨t, rfl⟩, ⟨t', rfl⟩⟩ := vals2 r
  refine min_two_ints (I.ok.hd hc) fun h' tk k => ⟨_, H, I.kept k, ?_, q⟩
  by_cases hj : j < i
  · rw [if_pos hj, if_pos hj]; exact ⟨_, rfl⟩
  · rw [if_neg hj, if_neg hj]; exact ⟨_, rfl⟩
end
end L2

namespace L2
open PySem PySem.Spec PyProof.Rows

/-! ### an instance, its attributes a map -/
structure ObjM (h : Heap) (x dx C : Addr) (mA : Str → Option Value) : Prop where
  obj : h.get? x = some (PySem.W.instObj C dx)
  ns : h.Ns1 dx mA
  ne : dx ≠ x

theorem lookIn_ns {h : Heap} {dx : Addr} {mA : Str → Option Value} (n : h.Ns1 dx mA) : ∃ od, h.get? dx = some od ∧ ∀ name, PySem.W.lookIn name od = some (mA name) := by
  obtain ⟨o, es, ep, ho, hd, hk, _, hm⟩ := n
  refine ⟨o, ho, fun name => ?_⟩
  have e := hm name
  unfold nsFind findBy at e
  rw [← Array.find?_toList] at e
  unfold PySem.W.lookIn
  rw [hd]
  dsimp only
  split
  · rename_i y q
    rw [q] at e
    exact congrArg some e
  · rename_i q
    rw [q] at e
    have a : es.toList.any (·.refKey) = false := by
      rw [List.any_eq_false]
      intro y hy
      obtain ⟨z, t, hkey⟩ := hk y (Array.mem_toList_iff.mp hy)
      simp [DictEntry.refKey, hkey]
    have a' : ¬ es.toList.any (·.refKey) = true := by rw [a]; exact Bool.false_ne_true
    rw [if_neg a']
    exact congrArg some e

theorem ObjM.look {h : Heap} {x dx C : Addr} {mA : Str → Option Value} (I : ObjM h x dx C mA) : ∃ od, PySem.W.InstAt h x (PySem.W.instObj C dx) C (some od) ∧ ∀ name, PySem.W.lookIn name od = some (mA name) :=
  let ⟨od, ho, hl⟩ := lookIn_ns I.ns
  ⟨od, ⟨I.obj, rfl, rfl, ho⟩, hl⟩

section
variable {prog : Program} {w : World} {A : Around} {E : Value → Shared → Prop} {s : Shared} {K : PySem.W.Frag} {x dx C f : Addr} {mA : Str → Option Value} {name : Str} {v : Value}

theorem get_map {expr : Bool} {Q : Value → Shared → Prop} (X : K.In s.heap) (I : ObjM s.heap x dx C mA) (hg : PySem.W.plainGet K C name = true) (hh : PySem.W.hasDictIn K C = true)
    (ha : PySem.W.findIn K (.ref C) name = some none) (hv : mA name = some v) (hv' : PySem.W.handedIn v = true) (h : Q v { s with toks := s.toks + 1 }) :
    wpAny (model prog w) A (getAttr (.ref x) name expr) Q E s := by
  obtain ⟨od, J, hl⟩ := I.look
  exact PySem.W.get_value X J (PySem.W.plainGet_of hg).1 (PySem.W.findObj_own hh ha rfl (by rw [hl, hv])) hv' h


theorem get_meth {pl : Sem Bool} {Q : Value × List Value → Shared → Prop} (X : K.In s.heap) (I : ObjM s.heap x dx C mA) (hg : PySem.W.plainGet K C name = true)
    (hf : PySem.W.findIn K (.ref C) name = some (some (.ref f))) (ht : PySem.W.isFn K (.ref f) = true) (hv : mA name = none) (h : Q (.ref f, [.ref x]) s) :
    wpAny (model prog w) A (getMethod (.ref x) name pl) Q E s := by
  obtain ⟨od, J, hl⟩ := I.look
  exact PySem.W.method_fn X J (PySem.W.plainGet_of hg).1 (PySem.W.plainGet_of hg).2 hf (beq_iff_eq.mp ht) (by show (PySem.W.lookIn name od).map (·.isSome) = some false; rw [hl, hv]; rfl) h

theorem set_map {ns : List Str} {Q : Unit → Shared → Prop} (X : K.In s.heap) (I : ObjM s.heap x dx C mA)
    (hs : PySem.W.findIn K (.ref C) "__setattr__" = some (some (.builtin "object.__setattr__"))) (hp : PySem.W.plainOver K C = true) (ht : PySem.W.takerIn K C name = some none) (hh : PySem.W.hasDictIn K C = true)
    (hw : PySem.Within mA ns) (hsz : ns.length ≤ sizeLine)
    (h : ∀ h', ObjM h' x dx C (fun y => if y = name then some v else mA y) → Heap.SameBut dx s.heap h' → Q () { s with heap := h', toks := s.toks + 2 }) :
    wpAny (model prog w) A (setAttr (.ref x) name v) Q E s := by
  obtain ⟨od, J, hl⟩ := I.look
  refine PySem.W.set_plain X J hs (PySem.W.osa_open (s := { s with toks := s.toks + 1 }) (r := none) X J hp ht fun b => ?_)
  obtain ⟨cd, hc, hd'⟩ := PySem.W.any_some hh
  have hx : s.heap.get? x = some ⟨.ref C, some dx, .plain, #[]⟩ := I.obj
  refine wpAny_bind (wpAny_pure (wpAny_bind (wpAny_bind (wpAny_loadPart hx (wpAny_bind (PySem.W.Looks.here (s := { s with toks := s.toks + 1 }) (PySem.W.looks_clsIn X hc) ?_))))))
  rw [hd']
  refine wpAny_pure (a := some dx) (wpAny_bind (wpAny_pure (wpAny_bind ?_)))
  refine wpAny_nsSet1 (s := { s with toks := s.toks + 1 }) I.ns fun h' hn2 hs2 => ?_
  obtain ⟨oD, esD, epD, hoD, hdD, hcD⟩ := hn2.count (PySem.Within.cons name v hw)
  refine wpAny_bind (wpAny_lookBehind hoD (by rw [hdD]; exact pastItsLine_dict (Nat.le_trans hcD (by rw [List.length_cons]; omega))) ?_)
  exact wpAny_pure (h _ ⟨(hs2.2 _ (Ne.symm I.ne)).trans I.obj, hn2, I.ne⟩ hs2)

/-- C(..): the dict at the heap's end, the instance behind it; then its __init__ -/
theorem make_map {R : Result → Shared → Prop} {vs : List Value} {kw : List (Str × Value)} (X : K.In s.heap) (hm : PySem.W.makesIn K C = true)
    (hi : PySem.W.findIn K (.ref C) "__init__" = some (some (.ref f))) (hf : PySem.W.typeIn K (.ref f) = some (.type "function"))
    (h : codeAny (model prog w) (A.under (.builtin "type.__call__" ⟨.ref C :: vs, kw⟩)) (.call (.ref f) ⟨.ref (s.heap.objs.size + 1) :: vs, kw⟩) (PySem.W.InitBack (s.heap.objs.size + 1) R)
      { s with heap := (s.heap.push PySem.W.emptyDict).push (PySem.W.instObj C s.heap.objs.size) }) :
    codeAny (model prog w) A (.call (.ref C) ⟨vs, kw⟩) R s := by
  obtain ⟨hh, g, d, t, os⟩ := s
  exact PySem.W.make_core (PySem.W.makes_of X hm) (PySem.W.looks_findIn X hi) (fun self => PySem.W.bind_fn X self hf) (.inl rfl) h
end

/-! ### the attributes as a list of pairs -/
def putF (f : Str) (v : V) : List (Str × V) → List (Str × V)
  | [] => [(f, v)]
  | (g, x) :: r => if g = f then (g, v) :: r else (g, x) :: putF f v r
theorem lookup_putF (f g : Str) (v : V) : ∀ fs : List (Str × V), (putF f v fs).lookup g = if g = f then some v else fs.lookup g
  | [] => by
    show List.lookup g [(f, v)] = _
    by_cases h : g = f
    · have hb : (g == f) = true := beq_iff_eq.mpr h
      simp only [List.lookup, hb, if_pos h]
    · have hb : (g == f) = false := beq_eq_false_iff_ne.mpr h
      simp only [List.lookup, hb, if_neg h]
  | (k, x) :: r => by
    have ih := lookup_putF f g v r
    rw [show putF f v ((k, x) :: r) = (if k = f then (k, v) :: r else (k, x) :: putF f v r) from rfl]
    by_cases hk : k = f
    · rw [if_pos hk]
      by_cases h : g = k
      · have hb : (g == k) = true := beq_iff_eq.mpr h
        simp only [List.lookup, hb, if_pos (h.trans hk)]
      · have hb : (g == k) = false := beq_eq_false_iff_ne.mpr h
        simp only [List.lookup, hb, if_neg (fun e : g = f => h (e.trans hk.symm))]
    · rw [if_neg hk]
      by_cases h : g = k
      · have hb : (g == k) = true := beq_iff_eq.mpr h
        simp only [List.lookup, hb, if_neg (fun e : g = f => hk (h.symm.trans e))]
      · have hb : (g == k) = false := beq_eq_false_iff_ne.mpr h
        simp only [List.lookup, hb]
        exact ih
theorem keys_putF (f : Str) (v : V) : ∀ fs : List (Str × V), f ∈ (putF f v fs).map (·.1) ∧ ∀ g, g ∈ fs.map (·.1) → g ∈ (putF f v fs).map (·.1)
  | [] => ⟨by simp [putF], fun g h => by simp at h⟩
  | (k, x) :: r => by
    obtain ⟨i1, i2⟩ := keys_putF f v r
    rw [show putF f v ((k, x) :: r) = (if k = f then (k, v) :: r else (k, x) :: putF f v r) from rfl]
    by_cases hk : k = f
    · rw [if_pos hk]
      subst hk
      exact ⟨by simp, fun g h => by simpa using h⟩
    · rw [if_neg hk]
      refine ⟨?_, fun g h => ?_⟩
      · rw [List.map_cons]
        exact List.mem_cons_of_mem _ i1
      · rw [List.map_cons] at h ⊢
        rcases List.mem_cons.mp h with e | e
        · exact List.mem_cons.mpr (.inl e)
        · exact List.mem_cons_of_mem _ (i2 g e)
theorem length_putF (f : Str) (v : V) : ∀ fs : List (Str × V), (putF f v fs).length ≤ fs.length + 1
  | [] => by simp [putF]
  | (k, x) :: r => by
    have ih := length_putF f v r
    rw [show putF f v ((k, x) :: r) = (if k = f then (k, v) :: r else (k, x) :: putF f v r) from rfl]
    by_cases hk : k = f
    · rw [if_pos hk, List.length_cons, List.length_cons]; omega
    · rw [if_neg hk, List.length_cons, List.length_cons]; omega

theorem RelO.some_of {v : V} {o : Option Value} (r : RelO (some v) o) : ∃ u, o = some u ∧ RelV v u := by
  cases o with
  | none => exact (show False from r).elim
  | some u => exact ⟨u, rfl, r⟩
theorem RelO.none_of {o : Option Value} (r : RelO none o) : o = none := by
  cases o with
  | none => rfl
  | some u => exact (show False from r).elim
theorem handed_of {v : V} {u : Value} (r : RelV v u) : PySem.W.handedIn u = true := by
  cases v with
  | non => cases (show u = Value.none from r); rfl
  | bl b => cases (show u = Value.bool b from r); rfl
  | int i => obtain ⟨t, e⟩ := (show ∃ t, u = Value.int i t from r); cases e; rfl
  | str x => obtain ⟨t, e⟩ := (show ∃ t, u = Value.str x t from r); cases e; rfl
  | byt b => obtain ⟨t, e⟩ := (show ∃ t, u = Value.bytes b t from r); cases e; rfl
  | flt b => obtain ⟨t, e⟩ := (show ∃ t, u = Value.float b t from r); cases e; rfl
  | ref a => cases (show u = Value.ref a from r); rfl
  | ty n => cases (show u = Value.type n from r); rfl

section
variable {P : Program} {w : World} {H H' : Hp} {h h' : Heap} {a C dx : Addr} {fs fs' : List (Str × V)}
theorem ins_get (hok : HOk P w H h) (e : H a = some (.ins C dx fs)) : ∃ mA, ObjM h a dx C mA ∧ (∀ f, RelO (fs.lookup f) (mA f)) ∧ PySem.Within mA (fs.map (·.1)) ∧ fs.length ≤ 1000 ∧ H dx = some (.own a) := by
  obtain ⟨d, z, ne, ob, mA, n, r, q⟩ := (show ObjOk P w H h a (.ins C dx fs) from hok a _ e)
  exact ⟨mA, ⟨ob, n, ne⟩, r, q, z, d⟩
end

/-! ### what of the text a class must have -/
structure Cls (K : PySem.W.Frag) (C : Addr) : Prop where
  pg : PySem.W.plainGet K C Str.empty = true
  hd : PySem.W.hasDictIn K C = true
  po : PySem.W.plainOver K C = true
  sa : PySem.W.findIn K (.ref C) "__setattr__" = some (some (.builtin "object.__setattr__"))
theorem Cls.get {K : PySem.W.Frag} {C : Addr} (c : Cls K C) (f : Str) : PySem.W.plainGet K C f = true := c.pg
/-- no class of it has the name -/
def NoAttr (K : PySem.W.Frag) (C : Addr) (f : Str) : Prop := PySem.W.findIn K (.ref C) f = some none
theorem NoAttr.taker {K : PySem.W.Frag} {C : Addr} {f : Str} (n : NoAttr K C f) : PySem.W.takerIn K C f = some none := by
  unfold PySem.W.takerIn
  rw [show PySem.W.findIn K (.ref C) f = some none from n]
  rfl
/-- a method: a plain def of the class or of one above it -/
structure Meth (K : PySem.W.Frag) (C : Addr) (m : Str) (f : Addr) : Prop where
  at_ : PySem.W.findIn K (.ref C) m = some (some (.ref f))
  fn : PySem.W.isFn K (.ref f) = true
  kp : PySem.W.keepIn K (.ref f) = true

section
variable {X : Cx} {pins : List (Addr × Obj)} {σ : St} {H : Hp} {s : Shared} {a C dx : Addr} {fs : List (Str × V)} {f : Str} {v : V} {A : Around} {E : Value → Shared → Prop}

theorem getattr_ok {b : Bool} {Q : Value → Shared → Prop} (I : Inv X pins σ H s) (e : H a = some (.ins C dx fs)) (c : Cls X.K C) (n : NoAttr X.K C f) (l : fs.lookup f = some v)
    (h : ∀ u s', Inv X pins σ H s' → RelV v u → Q u s') : wpAny (model X.prog X.w) A (getAttr (.ref a) f b) Q E s := by
  obtain ⟨mA, O, r, _, _, _⟩ := ins_get I.hok e
  obtain ⟨u, hu, ru⟩ := RelO.some_of (v := v) (o := mA f) (by rw [← l]; exact r f)
  exact get_map I.kIn O (c.get f) c.hd n hu (handed_of ru) (h u _ (I.tok _) ru)


theorem getmeth_ok {m : Str} {g : Addr} {pl : Sem Bool} {Q : Value × List Value → Shared → Prop} (I : Inv X pins σ H s) (e : H a = some (.ins C dx fs)) (c : Cls X.K C) (k : Meth X.K C m g) (l : fs.lookup m = none)
    (h : Q (.ref g, [.ref a]) s) : wpAny (model X.prog X.w) A (getMethod (.ref a) m pl) Q E s := by
  obtain ⟨mA, O, r, _, _, _⟩ := ins_get I.hok e
  have hn : mA m = none := RelO.none_of (by rw [← l]; exact r m)
  exact get_meth I.kIn O (c.get m) k.at_ k.fn hn h

theorem setattr_ok {y : V} {u : Value} {Q : Unit → Shared → Prop} (I : Inv X pins σ H s) (e : H a = some (.ins C dx fs)) (c : Cls X.K C) (n : NoAttr X.K C f) (hl : fs.length < 1000) (ry : RelV y u)
    (h : ∀ s', Inv X pins σ (upd H a (.ins C dx (putF f y fs))) s' → Q () s') : wpAny (model X.prog X.w) A (setAttr (.ref a) f u) Q E s := by
  obtain ⟨mA, O, r, wi, _, ho⟩ := ins_get I.hok e
  have hz : (fs.map (·.1)).length ≤ sizeLine := by rw [List.length_map, sizeLine_eq]; omega
  refine set_map I.kIn O c.sa c.po n.taker c.hd wi hz fun h' O' sb => h _ ?_
  have hd : ∃ o, h'.get? dx = some o := let ⟨o, _, _, e', _⟩ := O'.ns; ⟨o, e'⟩
  refine I.write (x := a) (e := dx) (by rw [e]; exact True.intro) (.inr ho) (fun b q hb z => (sb.2 b hb).trans z) hd ?_
  refine ⟨by rw [upd_ne O.ne]; exact ho, ?_, O.ne, O'.obj, _, O'.ns, fun g => ?_, fun g hg => ?_⟩
  · have := length_putF f y fs; omega
  · show RelO ((putF f y fs).lookup g) (if g = f then some u else mA g)
    rw [lookup_putF]
    by_cases q : g = f
    · rw [if_pos q, if_pos q]; exact ry
    · rw [if_neg q, if_neg q]; exact r g
  · by_cases q : g = f
    · rw [q]; exact (keys_putF f y fs).1
    · refine (keys_putF f y fs).2 g (wi g fun z => hg ?_)
      show (if g = f then some u else mA g) = none
      rw [if_neg q]; exact z

/-- a new instance, tracked, without attributes -/
theorem Inv.made (I : Inv X pins σ H s) : Inv X pins σ (upd (upd H s.heap.objs.size (.own (s.heap.objs.size + 1))) (s.heap.objs.size + 1) (.ins C s.heap.objs.size []))
    { s with heap := (s.heap.push PySem.W.emptyDict).push (PySem.W.instObj C s.heap.objs.size) } := by
  have e1 : (s.heap.push PySem.W.emptyDict).get? s.heap.objs.size = some PySem.W.emptyDict := Heap.get?_push_size s.heap rfl
  have e2 : ((s.heap.push PySem.W.emptyDict).push (PySem.W.instObj C s.heap.objs.size)).get? (s.heap.objs.size + 1) = some (PySem.W.instObj C s.heap.objs.size) := by
    have := Heap.get?_push_size (s.heap.push PySem.W.emptyDict) (o := PySem.W.instObj C s.heap.objs.size) rfl
    rwa [Heap.size_push] at this
  have e3 : (s.heap.push PySem.W.emptyDict).Ns s.heap.objs.size (fun _ => none) := ⟨PySem.W.emptyDict, #[], _, e1, rfl, (fun e he => absurd he (by simp)), fun _ => rfl⟩
  have I1 := I.laid (a := s.heap.objs.size) (o := .own (s.heap.objs.size + 1)) (h' := s.heap.push PySem.W.emptyDict) (t' := s.toks) (fun b u q => Heap.get?_push_of_some _ q) (Nat.le_refl _) ⟨_, e1⟩
  refine I1.laid (a := s.heap.objs.size + 1) (o := .ins C s.heap.objs.size []) (t' := s.toks) (fun b u q => Heap.get?_push_of_some _ q) (Nat.le_of_eq (Heap.size_push _ _)) ?_
  have ne : s.heap.objs.size ≠ s.heap.objs.size + 1 := Nat.ne_of_lt (Nat.lt_succ_self _)
  refine ⟨by rw [upd_ne ne, upd_same], Nat.zero_le _, ne, e2, fun _ => none, (Heap.Ns1.of_empty e3).at fun o q => Heap.get?_push_of_some _ q, fun _ => True.intro, fun y hy => absurd rfl hy⟩

/-- e.f where nothing but the object is asked: through attributeBase (super) and the last hold -/
theorem attr_of {prog : Program} {w : World} {env : Env} {e : Expr} {f : Str} {pos : Pos} {s : Shared} {Q : Value → Shared → Prop} (hb : attributeBase e f env (eval e env) = eval e env)
    (h : wpAny (model prog w) A (eval e env) (fun o s₁ => wpAny (model prog w) A (getAttr o f true) Q E s₁) E s) : wpAny (model prog w) A (eval (.Attribute e f pos) env) Q E s :=
  Attribute_any_ h (by rw [arm_eval_Attribute, hb])
end

/-! ### readings and rules -/
/-- e.f, an attribute of the instance -/
def tFld (K : PySem.W.Frag) (ta : TE) (f : Str) : TE := fun σ H Q => ta σ H fun x H1 => ∃ a C dx fs v, x = .ref a ∧ H1 a = some (.ins C dx fs) ∧ Cls K C ∧ NoAttr K C f ∧ fs.lookup f = some v ∧ Q v H1
/-- e.f = value -/
def sFld (K : PySem.W.Frag) (ta tv : TE) (f : Str) : TS := fun D σ H => tv σ H fun y H1 => ta σ H1 fun x H2 => ∃ a C dx fs, x = .ref a ∧ H2 a = some (.ins C dx fs) ∧ Cls K C ∧ NoAttr K C f ∧ fs.length < 1000 ∧
  D.nx σ (upd H2 a (.ins C dx (putF f y fs)))

section
variable {X : Cx} {o e value : Expr} {f : Str} {pos pos' tpos : Pos} {ta tv : TE}
theorem pe_fld (he : PE X e ta) (hb : attributeBase e f X.env (eval e X.env) = eval e X.env) : PE X (.Attribute e f pos) (tFld X.K ta f) := by
  intro pins s σ H Q I h
  refine attr_of hb (thn (he pins s σ H _ I h) fun u s1 ⟨x, H1, I1, rx, a, C, dx, fs, v, ex, ea, c, n, l, q⟩ => ?_)
  subst ex
  obtain rfl : u = Value.ref a := rx
  exact getattr_ok I1 ea c n l fun u' s2 I2 ru => ⟨v, H1, I2, ru, q⟩
theorem ps_fld (ha : PE X o ta) (hv : PE X value tv) (hs : swapsWith value (some (.Attribute o f pos')) pos.line X.env = pure false) : PS X (.Assign [.Attribute o f pos'] value pos) (sFld X.K ta tv f) := by
  intro pins s σ H D I h
  refine plainObj_wpAny_Assign_Attribute (thn (hv pins s σ H _ I h) fun u s1 ⟨y, H1, I1, ry, q⟩ => thn (ha pins s1 σ H1 _ I1 q) fun ov s2 ⟨x, H2, I2, rx, a, C, dx, fs, ex, ea, c, n, l, q2⟩ => ?_) hs
  subst ex
  obtain rfl : ov = Value.ref a := rx
  exact setattr_ok I2 ea c n l ry fun s3 I3 => ⟨σ, _, I3, q2⟩

end

/-! ### isinstance -/
section
variable {X : Cx} {pins : List (Addr × Obj)} {σ : St} {H : Hp} {s : Shared} {A : Around} {E : Value → Shared → Prop} {Q : Value → Shared → Prop} {c : Value} {b : Bool}
end
end L2

namespace L2
open PySem PySem.Spec PyProof.Rows

/-! ### room -/
structure Room (k : Nat) (A : Around) : Prop where
  hd : A.handled = none
  dp : A.depth + 3 * k + 5 < recursionLimit
  un : A.units + 16 * k + 200 < cLine
theorem Room.mono {j k : Nat} {A : Around} (r : Room k A) (h : j ≤ k) : Room j A := ⟨r.hd, by have := r.dp; omega, by have := r.un; omega⟩
theorem Room.deeper {k : Nat} {A : Around} (r : Room (k + 1) A) (env : Env) : Room k (A.deeper env) :=
  ⟨r.hd, by have := r.dp; show A.depth + 1 + 3 * k + 5 < _; omega, by have := r.un; show A.units + 3 + 16 * k + 200 < _; omega⟩
theorem make_depth {A : Around} {C : Addr} {us : List Value} {kw : List (Str × Value)} : (A.under (.builtin "type.__call__" ⟨.ref C :: us, kw⟩)).depth = A.depth + 1 := by
  first | rfl | simp [Around.under, Code.weight, Code.isCreation, Code.isGuard, Code.isCaller, Code.frames, Code.isFrame, guardIds]
theorem make_units {A : Around} {C : Addr} {us : List Value} {kw : List (Str × Value)} : (A.under (.builtin "type.__call__" ⟨.ref C :: us, kw⟩)).units = A.units + 1 := by
  first | rfl | simp [Around.under, Code.cUnits, Code.frames, Code.isFrame]
theorem Room.make {k : Nat} {A : Around} (r : Room (k + 1) A) (C : Addr) (us : List Value) (kw : List (Str × Value)) : Room k (A.under (.builtin "type.__call__" ⟨.ref C :: us, kw⟩)) :=
  ⟨r.hd, by have := r.dp; rw [make_depth]; omega, by have := r.un; rw [make_units]; omega⟩
theorem Room.depth {k : Nat} {A : Around} (r : Room k A) : A.depth < recursionLimit := by have := r.dp; omega
theorem Room.units {k : Nat} {A : Around} (r : Room k A) : A.units + 64 < cLine := by have := r.un; omega

/-! ### argument lists and displays -/
def tNil : TA := fun _ H Q => Q [] H
def tCons (ta : TE) (tr : TA) : TA := fun σ H Q => ta σ H fun x H1 => tr σ H1 fun xs H2 => Q (x :: xs) H2
section
variable {X : Cx} {e : Expr} {es : List Expr} {te : TE} {t : TA} {pos : Pos}
theorem pa_nil : PA X [] tNil := fun _ _ _ _ H Q I h => Calls.spliced_nil ⟨[], H, I, .nil, h⟩
theorem pa_cons (ha : PE X e te) (hr : PA X es t) (hs : starEach (e :: es) X.env = (false, eval e X.env) :: starEach es X.env := by rfl) : PA X (e :: es) (tCons te t) := by
  intro pos pins s σ H Q I h
  rw [hs]
  show wpAny _ _ (spliced ((false, eval e X.env) :: backTo pos (starEach es X.env))) _ _ s
  refine Calls.spliced_cons (thn (ha pins s σ H _ I h) fun u s1 ⟨x, H1, I1, r1, q1⟩ => ?_)
  exact thn (hr pos pins s1 σ H1 _ I1 q1) fun us s2 ⟨xs, H2, I2, r2, q2⟩ => ⟨x :: xs, H2, I2, .cons r1 r2, q2⟩

/-- a tuple, a list of written items -/
def tTup (t : TA) : TE := fun σ H Q => t σ H fun xs H1 => xs.length ≤ sizeLine ∧ ∀ p, H1 p = none → Q (.ref p) (upd H1 p (.tup xs))
def tLst (t : TA) : TE := fun σ H Q => t σ H fun xs H1 => xs.length ≤ sizeLine ∧ ∀ p, H1 p = none → Q (.ref p) (upd H1 p (.lst xs))
theorem pe_tup {x1} (h : PA X es t) : PE X (.Tuple es x1 pos) (tTup t) := by
  intro pins s σ H Q I hq
  refine wpAny_Tuple_spliced (thn (h pos pins s σ H _ I hq) fun us s1 ⟨xs, H1, I1, r, z, q⟩ => ⟨by rw [← r.length]; exact z, ?_⟩)
  have hf : H1 s1.heap.objs.size = none := I1.hok.fresh (Nat.le_refl _)
  refine ⟨.ref s1.heap.objs.size, upd H1 s1.heap.objs.size (.tup xs), I1.laid (t' := s1.toks) (fun b u e => Heap.get?_push_of_some _ e) (Nat.le_refl _) ?_, rfl, q _ hf⟩
  exact ⟨z, us, r, ⟨_, Heap.get?_push_size _ rfl, rfl, _, rfl⟩⟩
theorem pe_lst (h : PA X es t) : PE X (.List es pos) (tLst t) := by
  intro pins s σ H Q I hq
  refine wpAny_List_spliced (thn (h pos pins s σ H _ I hq) fun us s1 ⟨xs, H1, I1, r, z, q⟩ => ⟨by rw [← r.length]; exact z, ?_⟩)
  have hf : H1 s1.heap.objs.size = none := I1.hok.fresh (Nat.le_refl _)
  refine ⟨.ref s1.heap.objs.size, upd H1 s1.heap.objs.size (.lst xs), I1.laid (t' := s1.toks) (fun b u e => Heap.get?_push_of_some _ e) (Nat.le_refl _) ?_, rfl, q _ hf⟩
  exact ⟨z, us, 0, r, Heap.get?_push_size _ rfl⟩
end

/-! ### what a def promises -/
/-- a def's promise: the bound arguments in the parameters' order, the heap, the wanted end, the wanted exception -/
abbrev Sp := List V → Hp → VK → XK → Prop
/-- how an exception lies behind a call (file 08 gives it): the callers' frames, abstract heap and state ahead of the call, the wish, the exception, the state -/
abbrev CXT := List Env → Hp → Shared → XK → Value → Shared → Prop

/-- the state at a call -/
structure Env0 (P : Program) (w : World) (K : PySem.W.Frag) (mg : Str → Option Value) (base : Heap) (A : Around) (outer : List Env) (s : Shared) (H : Hp) : Prop where
  frames : A.frames = some outer
  mod : Mod K mg base
  bs : ∀ b o, base.get? b = some o → s.heap.get? b = some o ∧ H b = none
  bsz : base.objs.size ≤ s.heap.objs.size
  funs : s.heap.FunFrames base outer
  frf : ∀ b ∈ frs outer, H b = none
  hok : HOk P w H s.heap
  bare : AllBare s.gens
/-- a call's end -/
def CE (outer : List Env) (P : Program) (w : World) (H : Hp) (s : Shared) (Q : VK) (u : Value) (s' : Shared) : Prop :=
  ∃ v H', s'.os = s.os ∧ AllBare s'.gens ∧ Un (frs outer) [] H H' s.heap s'.heap ∧ HOk P w H' s'.heap ∧ RelV v u ∧ Q v H'
def CR (CX : CXT) (outer : List Env) (P : Program) (w : World) (H : Hp) (s : Shared) (Q : VK) (E : XK) (r : Result) (s' : Shared) : Prop :=
  match r with
  | .ok (.ret u) => CE outer P w H s Q u s'
  | .ok _ => False
  | .error e => CX outer H s E e s'
structure FnOk (P : Program) (w : World) (K : PySem.W.Frag) (mg : Str → Option Value) (base : Heap) (CX : CXT) (k : Nat) (f : Addr) (fd : FuncData) (ps : List Str) (sp : Sp) : Prop where
  len : ∀ vs H Q E, sp vs H Q E → vs.length = ps.length
  run : ∀ (A : Around) (outer : List Env) (s : Shared) (H : Hp) (args : Args) (us : List Value) (vs : List V) (Q : VK) (E : XK), Room k A → Env0 P w K mg base A outer s H → BindsTo s fd args (ps.zip us) → Vals vs us → sp vs H Q E →
    codeAny (model P w) A (.call (.ref f) args) (CR CX outer P w H s Q E) s

theorem Env0.make {P : Program} {w : World} {K : PySem.W.Frag} {mg : Str → Option Value} {base : Heap} {A : Around} {outer : List Env} {s : Shared} {H : Hp} (e : Env0 P w K mg base A outer s H) (C : Addr) (us : List Value) (kw : List (Str × Value)) :
    Env0 P w K mg base (A.under (.builtin "type.__call__" ⟨.ref C :: us, kw⟩)) outer s H := ⟨by first | exact e.frames | (simpa [Around.under, Code.envs, Code.isFrame, pushEnvs] using e.frames), e.mod, e.bs, e.bsz, e.funs, e.frf, e.hok, e.bare⟩

section
variable {X : Cx} {pins : List (Addr × Obj)} {σ : St} {H : Hp} {s s' : Shared}
/-- from a body: what a callee wants -/
theorem Inv.env0 (I : Inv X pins σ H s) : Env0 X.prog X.w X.K X.mg X.base X.A X.stack s H :=
  ⟨I.ok.frames, I.ok.mod, I.bs, Nat.le_trans I.ok.bsz I.sz, I.stack, I.stkFree, I.hok, I.bare⟩
/-- behind a call -/
theorem Inv.after {Q : VK} {u : Value} (I : Inv X pins σ H s) (h : CE X.stack X.prog X.w H s Q u s') : EP X pins σ Q u s' := by
  obtain ⟨v, H', os, bare, un, hok, r, q⟩ := h
  obtain ⟨hh, g, d, t, os'⟩ := s'
  obtain rfl : os' = s.os := os
  exact ⟨v, H', I.call (h' := hh) (g' := g) (d' := d) (t' := t) (ch := []) un hok bare (fun b z => absurd z (by simp)), r, q⟩
end

/-! ### calls -/
/-- f(..): the written arguments, then the defaults dvs; E: what is wanted of an exception -/
def tCall (sp : Sp) (dvs : List V) (E : XK) (t : TA) : TE := fun σ H Q => t σ H fun vs H1 => sp (vs ++ dvs) H1 Q E
/-- o.m(..) of an instance of the class at C -/
def tMeth (C : Addr) (m : Str) (sp : Sp) (dvs : List V) (E : XK) (ta : TE) (t : TA) : TE := fun σ H Q => ta σ H fun x H1 => ∃ a dx fs, x = .ref a ∧ H1 a = some (.ins C dx fs) ∧ fs.lookup m = none ∧
  t σ H1 fun vs H2 => sp (x :: (vs ++ dvs)) H2 Q E
/-- C(..): a new instance and its dict, then __init__ -/
def tMake (C : Addr) (sp : Sp) (dvs : List V) (E : XK) (t : TA) : TE := fun σ H Q => t σ H fun vs H1 => ∀ x dx, H1 x = none → H1 dx = none → dx ≠ x →
  sp (.ref x :: (vs ++ dvs)) (upd (upd H1 dx (.own x)) x (.ins C dx [])) (fun v H2 => v = .non ∧ Q (.ref x) H2) E

/-- how the parameters are bound: us the positional arguments, kw the keywords' values by name, ds the defaults that fill up -/
def Binds (K : PySem.W.Frag) (fd : FuncData) (ps : List Str) (ds : List Value) : Prop :=
  ∀ (s : Shared) (us : List Value), K.In s.heap → (us ++ ds).length = ps.length → BindsTo s fd ⟨us, []⟩ (ps.zip (us ++ ds))
/-- every parameter is given -/
theorem Binds.all {K : PySem.W.Frag} {fd : FuncData} {ps : List Str} (h : ∀ us : List Value, us.length = ps.length → bindArgs fd ⟨us, []⟩ = pure (ps.zip us)) : Binds K fd ps [] := fun s us _ hl => by
  rw [List.append_nil] at hl ⊢
  exact .of_eq (h us hl)

/-- an exception of a callee reaches what this body wants of exceptions -/
def Passes (CX : CXT) (X : Cx) (E : XK) : Prop := ∀ (pins : List (Addr × Obj)) (σ : St) (H : Hp) (s : Shared) (e : Value) (s' : Shared), Inv X pins σ H s → CX X.stack H s E e s' → X.xe e s'

section
variable {X : Cx} {CX : CXT} {k : Nat} {f C : Addr} {fd : FuncData} {ps : List Str} {sp : Sp} {dvs : List V} {ds : List Value} {E : XK} {x m : Str} {p pos apos : Pos} {e o : Expr} {es : List Expr} {ta : TE} {t : TA}

/-- the callee runs -/
theorem run_fn {pins : List (Addr × Obj)} {σ : St} {H : Hp} {s : Shared} {Q : VK} {us : List Value} {vs : List V} (F : FnOk X.prog X.w X.K X.mg X.base CX k f fd ps sp) (hr : Room k X.A) (hb : Binds X.K fd ps ds) (hd : Vals dvs ds) (hx : Passes CX X E)
    (I : Inv X pins σ H s) (r : Vals vs us) (h : sp (vs ++ dvs) H Q E) : wpAny (model X.prog X.w) X.A (call (.ref f) us) (EP X pins σ Q) X.xe s := by
  have r2 : Vals (vs ++ dvs) (us ++ ds) := r.append hd
  have hl : (us ++ ds).length = ps.length := by rw [← r2.length]; exact F.len _ _ _ _ h
  refine wpAny_call (codeAny_mono (F.run X.A X.stack s H ⟨us, []⟩ (us ++ ds) (vs ++ dvs) Q E hr I.env0 (hb s us I.kIn hl) r2 h) fun r s' hq => ?_)
  cases r with
  | error e => exact hx pins σ H s e s' I hq
  | ok fl =>
    cases fl with
    | ret u => exact I.after hq
    | next => exact False.elim hq
    | brk => exact False.elim hq
    | cont => exact False.elim hq

theorem pe_call (F : FnOk X.prog X.w X.K X.mg X.base CX k f fd ps sp) (hr : Room k X.A) (hg : Gl X x) (hm : X.mg x = some (.ref f)) (hk : PySem.W.keepIn X.K (.ref f) = true) (hb : Binds X.K fd ps ds) (hd : Vals dvs ds) (hx : Passes CX X E)
    (ha : PA X (e :: es) t) (hdb : (x == ("__debug__" : Str)) = false := by decide) (he : starEach (e :: es) X.env = (false, eval e X.env) :: starEach es X.env := by rfl) (hpl : (backTo pos (starEach es X.env)).any (·.1) = false := by rfl) :
    PE X (.Call (.Name x p) (e :: es) [] pos) (tCall sp dvs E t) := by
  intro pins s σ H Q I h
  refine wpAny_Call_Name_kw (ld_glob I hg hm ?_ hdb)
  refine PySem.W.callWith_K (h₀ := X.base) I.ok.mod.kin hk (thn (ha pos pins s σ H _ I h) fun us s1 ⟨vs, H1, I1, r, q⟩ => ⟨I1.kIn, ?_⟩) he hpl
  exact run_fn F hr hb hd hx I1 r q

/-- o.m(e, ..) -/
theorem pe_meth {pl : Sem Bool} (he : PE X o ta) (c : Cls X.K C) (hm : Meth X.K C m f) (F : FnOk X.prog X.w X.K X.mg X.base CX k f fd ps sp) (hr : Room k X.A) (hb : Binds X.K fd ps ds) (hd : Vals dvs ds) (hx : Passes CX X E) (ha : PA X (e :: es) t)
    (hst : starEach (e :: es) X.env = (false, eval e X.env) :: starEach es X.env := by rfl) (hpl : (backTo pos (starEach es X.env)).any (·.1) = false := by rfl)
    (ht : eval (.Call (.Attribute o m apos) (e :: es) [] pos) X.env = (do
      let ov ← eval o X.env
      standAt apos.atName
      let (f, first) ← holding [ov] (getMethod ov m pl)
      callWith pos f first (backTo pos (starEach (e :: es) X.env)) (backToKw pos (keywordEach [] X.env))) := by rfl) :
    PE X (.Call (.Attribute o m apos) (e :: es) [] pos) (tMeth C m sp dvs E ta t) := by
  intro pins s σ H Q I h
  refine PySem.W.methodCall_KW (pl := pl) (thn (he pins s σ H _ I h) fun u s1 ⟨x, H1, I1, rx, a, dx, fs, ex, ea, l, q⟩ => ?_) ht
  subst ex
  obtain rfl : u = Value.ref a := rx
  refine getmeth_ok I1 ea c hm l ?_
  refine PySem.W.callWith_K (first := [.ref a]) (h₀ := X.base) I.ok.mod.kin hm.kp (thn (ha pos pins s1 σ H1 _ I1 q) fun us s2 ⟨vs, H2, I2, r, q2⟩ => ⟨I2.kIn, ?_⟩) hst hpl
  exact run_fn (us := .ref a :: us) (vs := .ref a :: vs) F hr hb hd hx I2 (.cons rfl r) q2
/-- o.m() -/
theorem pe_meth0 {pl : Sem Bool} (he : PE X o ta) (c : Cls X.K C) (hm : Meth X.K C m f) (F : FnOk X.prog X.w X.K X.mg X.base CX k f fd ps sp) (hr : Room k X.A) (hb : Binds X.K fd ps ds) (hd : Vals dvs ds) (hx : Passes CX X E)
    (ht : eval (.Call (.Attribute o m apos) [] [] pos) X.env = (do
      let ov ← eval o X.env
      standAt apos.atName
      let (f, first) ← holding [ov] (getMethod ov m pl)
      callWith pos f first (backTo pos (starEach [] X.env)) (backToKw pos (keywordEach [] X.env))) := by rfl) :
    PE X (.Call (.Attribute o m apos) [] [] pos) (tMeth C m sp dvs E ta tNil) := by
  intro pins s σ H Q I h
  refine PySem.W.methodCall_KW (pl := pl) (thn (he pins s σ H _ I h) fun u s1 ⟨x, H1, I1, rx, a, dx, fs, ex, ea, l, q⟩ => ?_) ht
  subst ex
  obtain rfl : u = Value.ref a := rx
  refine getmeth_ok I1 ea c hm l ?_
  exact PySem.W.callWith_K0 (first := [.ref a]) I1.kIn hm.kp (run_fn (us := [.ref a]) (vs := [.ref a]) F hr hb hd hx I1 (.cons rfl .nil) q)

/-- what a class must have to be made -/
structure Mk (K : PySem.W.Frag) (C f : Addr) : Prop where
  makes : PySem.W.makesIn K C = true
  init : PySem.W.findIn K (.ref C) "__init__" = some (some (.ref f))
  fn : PySem.W.isFn K (.ref f) = true
  kp : PySem.W.keepIn K (.ref C) = true

theorem run_make {pins : List (Addr × Obj)} {σ : St} {H : Hp} {s : Shared} {Q : VK} {us : List Value} {vs : List V} (M : Mk X.K C f) (F : FnOk X.prog X.w X.K X.mg X.base CX k f fd ps sp) (hr : Room (k + 1) X.A) (hb : Binds X.K fd ps ds) (hd : Vals dvs ds)
    (hx : Passes CX X E) (I : Inv X pins σ H s) (r : Vals vs us)
    (h : ∀ x dx, H x = none → H dx = none → dx ≠ x → sp (.ref x :: (vs ++ dvs)) (upd (upd H dx (.own x)) x (.ins C dx [])) (fun v H2 => v = .non ∧ Q (.ref x) H2) E) :
    wpAny (model X.prog X.w) X.A (call (.ref C) us) (EP X pins σ Q) X.xe s := by
  have hq := h (s.heap.objs.size + 1) s.heap.objs.size (I.hok.fresh (Nat.le_succ _)) (I.hok.fresh (Nat.le_refl _)) (Nat.ne_of_lt (Nat.lt_succ_self _))
  have I2 := Inv.made (C := C) I
  have r2 : Vals (V.ref (s.heap.objs.size + 1) :: (vs ++ dvs)) (Value.ref (s.heap.objs.size + 1) :: (us ++ ds)) := .cons rfl (r.append hd)
  have hl : (Value.ref (s.heap.objs.size + 1) :: us ++ ds).length = ps.length := by
    have e := r2.length
    rw [F.len _ _ _ _ hq] at e
    exact e.symm
  refine wpAny_call (make_map (f := f) I.kIn M.makes M.init (beq_iff_eq.mp M.fn) (codeAny_mono (F.run _ X.stack _ _ ⟨Value.ref (s.heap.objs.size + 1) :: us, []⟩ (Value.ref (s.heap.objs.size + 1) :: (us ++ ds)) _ _ E (hr.make C us [])
    (I2.env0.make C us []) (hb _ (Value.ref (s.heap.objs.size + 1) :: us) I2.kIn hl) r2 hq) fun r s' hq' => ?_))
  cases r with
  | error e => exact hx pins σ _ _ e s' I2 hq'
  | ok fl =>
    cases fl with
    | ret u =>
      obtain ⟨v, H', I3, rv, ev, q3⟩ := I2.after hq'
      subst ev
      exact ⟨rv, ⟨V.ref (s.heap.objs.size + 1), H', I3, rfl, q3⟩⟩
    | next => exact False.elim hq'
    | brk => exact False.elim hq'
    | cont => exact False.elim hq'
theorem pe_make (M : Mk X.K C f) (F : FnOk X.prog X.w X.K X.mg X.base CX k f fd ps sp) (hr : Room (k + 1) X.A) (hg : Gl X x) (hm : X.mg x = some (.ref C)) (hb : Binds X.K fd ps ds) (hd : Vals dvs ds) (hx : Passes CX X E)
    (ha : PA X (e :: es) t) (hdb : (x == ("__debug__" : Str)) = false := by decide) (he : starEach (e :: es) X.env = (false, eval e X.env) :: starEach es X.env := by rfl) (hpl : (backTo pos (starEach es X.env)).any (·.1) = false := by rfl) :
    PE X (.Call (.Name x p) (e :: es) [] pos) (tMake C sp dvs E t) := by
  intro pins s σ H Q I h
  refine wpAny_Call_Name_kw (ld_glob I hg hm ?_ hdb)
  refine PySem.W.callWith_K (h₀ := X.base) I.ok.mod.kin M.kp (thn (ha pos pins s σ H _ I h) fun us s1 ⟨vs, H1, I1, r, q⟩ => ⟨I1.kIn, ?_⟩) he hpl
  exact run_make M F hr hb hd hx I1 r q
theorem pe_make0 (M : Mk X.K C f) (F : FnOk X.prog X.w X.K X.mg X.base CX k f fd ps sp) (hr : Room (k + 1) X.A) (hg : Gl X x) (hm : X.mg x = some (.ref C)) (hb : Binds X.K fd ps ds) (hd : Vals dvs ds) (hx : Passes CX X E)
    (hdb : (x == ("__debug__" : Str)) = false := by decide) : PE X (.Call (.Name x p) [] [] pos) (tMake C sp dvs E tNil) := by
  intro pins s σ H Q I h
  refine wpAny_Call_Name_kw (ld_glob I hg hm ?_ hdb)
  exact PySem.W.callWith_K0 I.kIn M.kp (run_make (us := []) M F hr hb hd hx I .nil h)
end

/-! ### keywords -/
section
variable {X : Cx} {CX : CXT} {k : Nat} {f C : Addr} {fd : FuncData} {ps ks : List Str} {sp : Sp} {E : XK} {x m : Str} {p pos apos kpos : Pos} {e o : Expr} {es : List Expr} {kws : List Keyword} {te ta : TE} {t tk : TA} {nm : Option Str}

variable {g : List Value → List Value → List Value} {gV : List V → List V → List V}
end

/-! ### a def's body keeps its promise -/
/-- names: the parameters first -/
structure FnScope (N P : List Str) (sc : Scope) : Prop where
  kind : sc.kind = .function
  co : sc.isCoroutine = false
  gen : sc.isGenerator = false
  nd : N.Nodup
  pre : N.take P.length = P
  par : ∀ x ∈ P, sc.names.lookup x = some .local ∨ sc.names.lookup x = some .cell
  nofree : ∀ y ∈ sc.names, y.2 ≠ .free

theorem bindL_out {kindOf : Str → Option NameKind} {x : Str} : ∀ {binds : List (Str × Value)} {m : Str → Option Value}, (∀ v, (x, v) ∉ binds) → bindL kindOf binds m x = m x
  | [], _, _ => rfl
  | (n, v) :: r, m, h => by
    unfold bindL
    rw [bindL_out fun w hw => h w (List.mem_cons_of_mem _ hw)]
    split
    · have : x ≠ n := by rintro rfl; exact h v List.mem_cons_self
      simp [this]
    · rfl
theorem bindC_out {kindOf : Str → Option NameKind} {x : Str} : ∀ {binds : List (Str × Value)} {m : Str → Option Value}, (∀ v, (x, v) ∉ binds) → bindC kindOf binds m x = m x
  | [], _, _ => rfl
  | (n, v) :: r, m, h => by
    unfold bindC
    rw [bindC_out fun w hw => h w (List.mem_cons_of_mem _ hw)]
    split
    · rfl
    · have : x ≠ n := by rintro rfl; exact h v List.mem_cons_self
      simp [this]
theorem bindL_get {kindOf : Str → Option NameKind} {x : Str} {v : Value} : ∀ {P : List Str} {vs : List Value} {i : Nat} {m : Str → Option Value}, P.Nodup → P[i]? = some x → vs[i]? = some v → kindOf x = some .local →
    bindL kindOf (P.zip vs) m x = some v
  | [], _, _, _, _, h, _, _ => by simp at h
  | _ :: _, [], _, _, _, _, h, _ => by simp at h
  | p :: P, w :: vs, 0, m, nd, h1, h2, hk => by
    simp at h1 h2; subst h1; subst h2
    show bindL kindOf ((p, w) :: P.zip vs) m p = _
    unfold bindL
    rw [bindL_out fun v hv => (List.nodup_cons.mp nd).1 (List.of_mem_zip hv).1, if_pos hk]
    simp
  | p :: P, w :: vs, i + 1, m, nd, h1, h2, hk => by
    show bindL kindOf ((p, w) :: P.zip vs) m x = _
    unfold bindL
    exact bindL_get (i := i) (List.nodup_cons.mp nd).2 (by simpa using h1) (by simpa using h2) hk
theorem bindC_get {kindOf : Str → Option NameKind} {x : Str} {v : Value} : ∀ {P : List Str} {vs : List Value} {i : Nat} {m : Str → Option Value}, P.Nodup → P[i]? = some x → vs[i]? = some v → kindOf x ≠ some .local →
    bindC kindOf (P.zip vs) m x = some v
  | [], _, _, _, _, h, _, _ => by simp at h
  | _ :: _, [], _, _, _, _, h, _ => by simp at h
  | p :: P, w :: vs, 0, m, nd, h1, h2, hk => by
    simp at h1 h2; subst h1; subst h2
    show bindC kindOf ((p, w) :: P.zip vs) m p = _
    unfold bindC
    rw [bindC_out fun v hv => (List.nodup_cons.mp nd).1 (List.of_mem_zip hv).1, if_neg hk]
    simp
  | p :: P, w :: vs, i + 1, m, nd, h1, h2, hk => by
    show bindC kindOf ((p, w) :: P.zip vs) m x = _
    unfold bindC
    exact bindC_get (i := i) (List.nodup_cons.mp nd).2 (by simpa using h1) (by simpa using h2) hk

/-- the names' values at the entry -/
def start (N : List Str) (vs : List V) : St := vs.map some ++ List.replicate (N.length - vs.length) none

/-- the context of a def's body, at its entry; an exception leaves the frame, then lies as CX says -/
def cxOf (CX : CXT) (P : Program) (w : World) (K : PySem.W.Frag) (mg : Str → Option Value) (base : Heap) (N : List Str) (qual : Str) (scope : Scope) (f : Addr) (cd : Value) (A : Around) (outer : List Env) (s : Shared) (H : Hp) (E : XK) : Cx where
  prog := P
  w := w
  K := K
  mg := mg
  base := base
  A := A.deeper (envOfC qual scope s.heap.objs.size f cd)
  N := N
  s_0 := s
  H_0 := H
  env := envOfC qual scope s.heap.objs.size f cd
  outer := outer
  stack := envOfC qual scope s.heap.objs.size f cd :: outer
  ex := []
  calm := true
  fn := fun _ => true
  pn := []
  xe := fun e s' => wpAny (model P w) (A.deeper (envOfC qual scope s.heap.objs.size f cd)) (leaving (envOfC qual scope s.heap.objs.size f cd) e) (fun _ s'' => CX outer H s E e s'') (fun e' s'' => CX outer H s E e' s'') s'

theorem cell_has {sc : Scope} {n : Nat} {x : Str} (h : sc.names.lookup x = some .cell) : ∃ c, (cellsFrom n sc.names []).lookup x = some c := by
  have q := PySem.W.cellsFrom_some sc.names n [] (.inl h)
  exact Option.isSome_iff_exists.mp q

theorem inv_start {CX : CXT} {P : Program} {w : World} {K : PySem.W.Frag} {mg : Str → Option Value} {base : Heap} {N ps : List Str} {qual : Str} {scope : Scope} {f : Addr} {cd : Value} {A : Around} {outer : List Env} {s s1 : Shared} {H : Hp} {E : XK} {us : List Value} {vs : List V}
    (S : FnScope N ps scope) (hd : A.handled = none) (e0 : Env0 P w K mg base A outer s H) (hl : vs.length = ps.length) (r : Vals vs us)
    (x : InCallC s s.heap.objs.size (bindL (envOfC qual scope s.heap.objs.size f cd).kindOf (ps.zip us) fun _ => none) (cellsFrom (s.heap.objs.size + 1) scope.names []) (bindC (envOfC qual scope s.heap.objs.size f cd).kindOf (ps.zip us) fun _ => none) s1) :
    Inv (cxOf CX P w K mg base N qual scope f cd A outer s H E) [] (start N vs) H s1 := by
  have hpl : ps.length ≤ N.length := by have := congrArg List.length S.pre; rw [List.length_take] at this; omega
  obtain ⟨h1, tk, rfl, hk⟩ := x.done
  have noA : ∀ b : Addr, b ∉ (cxOf CX P w K mg base N qual scope f cd A outer s H E).ex := fun b z => absurd (show b ∈ ([] : List Addr) from z) (by simp)
  refine ⟨⟨e0.mod, S.kind, rfl, rfl, Nat.le_refl _, fun y z c h1 h2 => ?_, fun y hy => ?_, fun y c _ h => ?_, fun _ => hd, Around.frames_deeper e0.frames, .inr ⟨rfl, rfl⟩, fun b z => absurd z (noA b), e0.bs, e0.bsz, fun b _ _ => noA b, fun b z => absurd z (noA b), e0.funs, e0.frf⟩,
    rfl, e0.bare, Un.kept hk, ⟨_, x.toInCall.ns, fun i y v h1 h2 h3 => ?_⟩, fun y c h => ⟨_, x.cell y c h⟩, e0.hok.fresh (Nat.le_refl _), fun y c h => ?_, fun p hp => absurd (show p ∈ ([] : List (Addr × Obj)) from hp) (by simp), e0.hok.kept hk, ?_⟩
  · exact name_of_addr x.apart (PySem.mem_of_lookup h1) (PySem.mem_of_lookup h2)
  · have hy : scope.names.lookup y = some .cell ∨ scope.names.lookup y = some .free := hy
    rcases hy with hy | hy
    · exact cell_has hy
    · exact absurd rfl (S.nofree _ (PySem.mem_of_lookup hy))
  · exact Nat.le_of_lt (x.above y c (PySem.mem_of_lookup h))
  · have hi : i < vs.length := by
      unfold start at h2
      by_cases hi : i < vs.length
      · exact hi
      · rw [List.getElem?_append_right (by simpa using hi)] at h2
        rw [List.getElem?_replicate] at h2
        split at h2 <;> cases h2
    have ha : vs[i]? = some v := by
      unfold start at h2
      rw [List.getElem?_append_left (by simpa using hi), List.getElem?_map] at h2
      cases e : vs[i]? with
      | none => rw [e] at h2; cases h2
      | some a => rw [e] at h2; cases h2; rfl
    obtain ⟨u, hu, rv⟩ := r.get ha
    have hp : ps[i]? = some y := by
      rw [← S.pre, List.getElem?_take_of_lt (by omega)]; exact h1
    have ndP : ps.Nodup := by rw [← S.pre]; exact S.nd.sublist (List.take_sublist _ _)
    refine ⟨u, rv, ?_⟩
    rcases S.par y (List.mem_of_getElem? hp) with k | k
    · exact .inl ⟨k, bindL_get ndP hp hu k⟩
    · obtain ⟨c, e⟩ := cell_has (n := s.heap.objs.size + 1) k
      refine .inr ⟨.inl k, c, e, ?_⟩
      have q := x.cell y c e
      rw [bindC_get ndP hp hu (by show scope.names.lookup y ≠ _; rw [k]; decide)] at q
      exact q
  · exact e0.hok.fresh (Nat.le_of_lt (x.above y c (PySem.mem_of_lookup h)))
  · unfold start
    show _ = N.length
    rw [List.length_append, List.length_map, List.length_replicate]
    omega

/-- THE RULE: a def (or a method) of the text, by its body. The body's reading t is chosen for each entry; it is run at the parameters' values -/
theorem fn_of {CX : CXT} {P : Program} {w : World} {K : PySem.W.Frag} {mg : Str → Option Value} {base : Heap} {k : Nat} {f : Addr} {name qual : Str} {params : Arguments} {body : List Stmt} {scope : Scope} {dV kV doc pm cdv ct oc : Value} {an od : Option Addr}
    {osl : Array (Option Value)} {N ps : List Str} {sp : Sp} (lk : K.lookup f = some ⟨oc, od, .func (PySem.W.fnOf name qual params body scope dV kV doc pm an cdv ct), osl⟩) (hcd : PySem.W.codeIn K cdv qual = true) (S : FnScope N ps scope)
    (len : ∀ vs H Q E, sp vs H Q E → vs.length = ps.length)
    (hbody : ∀ (A : Around) (outer : List Env) (s : Shared) (H : Hp) (vs : List V) (Q : VK) (E : XK), Room k (A.deeper (envOfC qual scope s.heap.objs.size f cdv)) → sp vs H Q E →
      ∃ t, PSs (cxOf CX P w K mg base N qual scope f cdv A outer s H E) body t ∧ t { nx := fun _ H' => Q .non H', rt := Q } (start N vs) H) :
    FnOk P w K mg base CX (k + 1) f (PySem.W.fnOf name qual params body scope dV kV doc pm an cdv ct) ps sp := by
  refine ⟨len, fun A outer s H args us vs Q E hr e0 hb r hsp => ?_⟩
  have hl := len _ _ _ _ hsp
  have KX : K.In s.heap := e0.mod.kin.keeps fun b o e => (e0.bs b o e).1
  have lim : s.heap.NoLimit := e0.mod.nolimit.keeps fun b o e => (e0.bs b o e).1
  have hkind : ∀ y ∈ ps.zip us, scope.names.lookup y.1 = some .local ∨ (scope.names.lookup y.1 = some .cell ∧ ((cellsFrom (s.heap.objs.size + 1) scope.names []).lookup y.1).isSome = true) := fun ⟨n, v⟩ hy => by
    rcases S.par n (List.of_mem_zip hy).1 with q | q
    · exact .inl q
    · exact .inr ⟨q, PySem.W.cellsFrom_some _ _ _ (.inl q)⟩
  refine codeAny_call_function hr.depth (KX _ _ lk) rfl S.co S.gen rfl (PySem.W.codeRec_of KX hcd) (hb _ _ _ _ ?_)
  refine wpAny_newFunctionEnv_cells S.kind hkind fun env he s1 x => ?_
  subst he
  refine ⟨lim.keeps x.toInCall.keep, codeAny_func ?_⟩
  obtain ⟨t, ht, hq⟩ := hbody A outer s H vs Q E (hr.deeper _) hsp
  have I : Inv (cxOf CX P w K mg base N qual scope f cdv A outer s H E) [] (start N vs) H s1 := inv_start S hr.hd e0 hl r x
  refine wpAny_mono (ht [] s1 (start N vs) H _ I hq) (fun fl s' hs => ?_) fun e s' hs => hs
  have fin : ∀ {σ' : St} {H' : Hp} {v : V} {u : Value}, Inv (cxOf CX P w K mg base N qual scope f cdv A outer s H E) [] σ' H' s' → RelV v u → Q v H' → CE outer P w H s Q u s' :=
    fun {σ' H' v u} J rv q => ⟨v, H', J.os, J.bare, J.base, J.hok, rv, q⟩
  cases fl with
  | ret u =>
    obtain ⟨v, σ', H', J, rv, q⟩ := hs
    exact fin J rv q
  | next =>
    obtain ⟨σ', H', J, q⟩ := hs
    exact fin (v := V.non) (u := Value.none) J rfl q
  | brk =>
    obtain ⟨_, _, _, q⟩ := hs
    exact False.elim q
  | cont =>
    obtain ⟨_, _, _, q⟩ := hs
    exact False.elim q
end L2

namespace L2
open PySem PySem.Spec PyProof.Rows
section
variable {X : Cx} {x : Str} {p pos : Pos} {e : Expr} {es : List Expr} {t : TA} {id T : String} {r : List V → Hp → VK → Prop}

def tCB (r : List V → Hp → VK → Prop) (t : TA) : TE := fun σ H Q => t σ H fun vs H1 => r vs H1 Q
/-- f(e, ..), f a built-in function -/
theorem pe_callB (hc : CallR X (.builtin id) r) (hg : Gl X x) (hm : X.mg x = none) (hv : bootBuiltins x = some (.builtin id)) (ha : PA X (e :: es) t) (hn : x ≠ "__name__" := by decide) (hdb : (x == ("__debug__" : Str)) = false := by decide)
    (he : starEach (e :: es) X.env = (false, eval e X.env) :: starEach es X.env := by rfl) (hpl : (backTo pos (starEach es X.env)).any (·.1) = false := by rfl) : PE X (.Call (.Name x p) (e :: es) [] pos) (tCB r t) := by
  intro pins s σ H Q I h
  refine wpAny_Call_Name_kw (ld_blt I hg hm hv ?_ hn hdb)
  exact PyProof.Rows.callWith_builtin1 (thn (ha pos pins s σ H _ I h) fun us s1 ⟨vs, H1, I1, r1, q1⟩ => hc pins s1 σ H1 vs us Q I1 r1 q1) he hpl
end
end L2

namespace HT
open PySem PyProof.Rows



section
open PySem.SeqAt
open PySem.AutoSeq1 (wpAny_loadPart')
open PySem.MeetsSeq PySem.MeetsSeq2 PySem.MeetsSeq3

end

section
variable {prog : Program} {w : World} {A : Around} {E : Value → Shared → Prop} {s : Shared}



/-! ### t[a:b], not the whole -/
/-- a slice's bound as a place among n (d where it is left out) -/
def sIx (n d : Nat) : Option Int → Nat
  | none => d
  | some v => if v < 0 then (v + (n : Int)).toNat else min v.toNat n
theorem sIx_nat (n d k : Nat) : sIx n d (some (k : Int)) = min k n := by
  show (if (k : Int) < 0 then ((k : Int) + (n : Int)).toNat else min (k : Int).toNat n) = min k n
  rw [if_neg (by omega), Int.toNat_natCast]
theorem sIx_le (n d : Nat) (hd : d ≤ n) (o : Option Int) : sIx n d o ≤ n := by
  cases o with
  | none => exact hd
  | some v =>
    show (if v < 0 then (v + (n : Int)).toNat else min v.toNat n) ≤ n
    by_cases hv : v < 0
    · rw [if_pos hv]; omega
    · rw [if_neg hv]; exact Nat.min_le_right _ _
theorem clip_eq (v : Int) (n d : Nat) : (if v < 0 then max (v + (n : Int)) 0 else min v (n : Int)) = ((sIx n d (some v) : Nat) : Int) := by
  show (if v < 0 then max (v + (n : Int)) 0 else min v (n : Int)) = (((if v < 0 then (v + (n : Int)).toNat else min v.toNat n) : Nat) : Int)
  by_cases hv : v < 0
  · simp only [if_pos hv]; omega
  · simp only [if_neg hv]; omega
theorem adjust_gen (lo hi : Option Int) (n : Nat) : Builtin.Slice.sliceAdjust lo hi 1 (n : Int) = (((sIx n 0 lo : Nat) : Int), ((sIx n n hi : Nat) : Int)) := by
  have h1 : ¬ ((1 : Int) < 0) := by omega
  unfold Builtin.Slice.sliceAdjust
  simp only [h1, if_false]
  refine Prod.ext ?_ ?_
  · cases lo with
    | none => rfl
    | some v => exact clip_eq v n 0
  · cases hi with
    | none => rfl
    | some v => exact clip_eq v n n
theorem places_gen (i j : Nat) : Builtin.Slice.slicePlaces (i : Int) (j : Int) 1 = j - i := by
  unfold Builtin.Slice.slicePlaces
  have h1 : (1 : Int) > 0 := by omega
  simp only [h1, if_true, Int.ediv_one]
  split <;> omega
theorem slicePart_ {v : Value} {o : Option Int} {Q : Option Int → Shared → Prop} (p : IsPart v o) (h : Q o s) : wpAny (model prog w) A (Builtin.Slice.slicePartIndex v) Q E s := by
  cases p with
  | none => exact slicePart_none h
  | int i t => exact slicePart_int h
theorem sliceApplied_gen {sl : Addr} {vl vu : Value} {lo hi : Option Int} {n : Nat} {Q : Int × Int × Nat → Shared → Prop} (hs : s.heap.IsSliceOf sl vl vu .none) (pl : IsPart vl lo) (pu : IsPart vu hi)
    (h : Q (((sIx n 0 lo : Nat) : Int), 1, sIx n n hi - sIx n 0 lo) s) : wpAny (model prog w) A (Builtin.Slice.sliceApplied (.ref sl) (pure (n : Int))) Q E s := by
  obtain ⟨os, hos, hcs, hds⟩ := id hs
  unfold Builtin.Slice.sliceApplied Builtin.Slice.sliceFields
  refine wpAny_bind (wpAny_bind (wpAny_field hos hds (x := vl) rfl (wpAny_bind (wpAny_field hos hds (x := vu) rfl (wpAny_bind (wpAny_field hos hds (x := .none) rfl (wpAny_pure ?_)))))))
  refine wpAny_bind (slicePart_none ?_)
  show wpAny _ _ (if ((1 : Int) == 0) = true then _ else _) _ _ s
  rw [if_neg (by decide)]
  refine wpAny_bind (slicePart_ pl (wpAny_bind (slicePart_ pu (wpAny_bind (wpAny_pure ?_)))))
  show wpAny _ _ (match Builtin.Slice.sliceAdjust lo hi 1 (n : Int) with | (lo, hi) => pure (lo, (1 : Int), Builtin.Slice.slicePlaces lo hi 1)) _ _ s
  rw [adjust_gen lo hi n]
  show wpAny _ _ (pure (((sIx n 0 lo : Nat) : Int), (1 : Int), Builtin.Slice.slicePlaces ((sIx n 0 lo : Nat) : Int) ((sIx n n hi : Nat) : Int) 1)) _ _ s
  rw [places_gen]
  exact wpAny_pure h
theorem pick_gen (xs : Array Value) (i k : Nat) : ((List.range k).filterMap fun (m : Nat) => xs[((i : Int) + (m : Int) * 1).toNat]?).toArray = ((xs.toList.drop i).take k).toArray := by
  have e : (fun (m : Nat) => xs[((i : Int) + (m : Int) * 1).toNat]?) = fun m => xs[i + m]? := by
    funext m
    have : ((i : Int) + (m : Int) * 1).toNat = i + m := by omega
    rw [this]
  rw [e]
  have := pick_run xs i k
  rw [List.filterMap_map] at this
  have e2 : ((fun x => xs[x]?) ∘ fun x => i + x) = fun m => xs[i + m]? := rfl
  rw [e2] at this
  rw [this]

theorem getItem_tuple_cut {t sl : Addr} {items : Array Value} {vl vu : Value} {lo hi : Option Int} {Q : Value → Shared → Prop} (ht : IsTup s.heap t items) (hs : s.heap.IsSliceOf sl vl vu .none) (pl : IsPart vl lo) (pu : IsPart vu hi)
    (hw : ¬ (sIx items.size 0 lo = 0 ∧ sIx items.size items.size hi = items.size))
    (h : Q (.ref s.heap.objs.size) { s with heap := s.heap.push { cls := .type "tuple", data := .seq ((items.toList.drop (sIx items.size 0 lo)).take (sIx items.size items.size hi - sIx items.size 0 lo)).toArray } })
    (hsz : items.size ≤ sizeLine) : wpAny (model prog w) A (getItem (.ref t) (.ref sl)) Q E s := by
  have htake : sizeOk (.seq ((items.toList.drop (sIx items.size 0 lo)).take (sIx items.size items.size hi - sIx items.size 0 lo)).toArray) := by
    show ((items.toList.drop (sIx items.size 0 lo)).take (sIx items.size items.size hi - sIx items.size 0 lo)).toArray.size ≤ sizeLine
    rw [List.size_toArray, List.length_take, List.length_drop, Array.length_toList]
    omega
  have hj : sIx items.size items.size hi ≤ items.size := sIx_le _ _ (Nat.le_refl _) hi
  obtain ⟨os, hos, hcs, hds⟩ := id hs
  have hTs : s.TypeIs (.ref sl) "slice" := ⟨os, hos, hcs⟩
  unfold getItem
  try with_reducible refine wpAny_holding ?_
  first | refine wpAny_bind (wpAny_pure ?_) | skip
  refine wpAny_bind (wpAny_sequenceKey ht.typeIs (by decide) ?_)
  refine wpAny_bind (wpAny_callSpecial?_slot (name := Str.ofString "__getitem__") ht.typeIs PyProof.Rows.slot_tuple_getitem
    (wpAny_call_entry PyProof.Rows.slot_tuple_getitem ht.typeIs entry_tuple_getitem ?_ (args_tuple_getitem _ _)))
  show wpAny _ _ (Builtin.Tuple.tupleItemsOf (.ref t) >>= _) _ _ s
  refine wpAny_bind (tupleItemsOf_ ht ?_)
  refine wpAny_bind (wpAny_typeOf hTs ?_)
  rw [if_pos (by decide)]
  refine wpAny_bind (sliceApplied_gen hs pl pu ?_)
  have hno : ¬ ((((sIx items.size 0 lo : Nat) : Int) == 0 && (1 : Int) == 1 && (sIx items.size items.size hi - sIx items.size 0 lo) == items.size) = true) := by
    intro q
    rw [Bool.and_eq_true, Bool.and_eq_true] at q
    have q1 : ((sIx items.size 0 lo : Nat) : Int) = 0 := eq_of_beq q.1.1
    have q2 : sIx items.size items.size hi - sIx items.size 0 lo = items.size := eq_of_beq q.2
    exact hw ⟨by omega, by omega⟩
  show wpAny _ _ (if (((sIx items.size 0 lo : Nat) : Int) == 0 && (1 : Int) == 1 && (sIx items.size items.size hi - sIx items.size 0 lo) == items.size) = true then _ else _) _ _ s
  rw [if_neg hno, pick_gen]
  first
    | exact wpAny_bind (m := Builtin.Tuple.tupleExact _) (wpAny_newObj_type (wpAny_pure ⟨_, rfl, wpAny_pure h⟩) htake)
    | exact wpAny_bind (m := Builtin.Tuple.tupleExact _) (wpAny_newObj_type (wpAny_bind (wpAny_pure (wpAny_pure ⟨_, rfl, wpAny_pure h⟩))) htake)
    | exact wpAny_bind (wpAny_bind (m := Builtin.Tuple.tupleExact _) (wpAny_newObj_type (wpAny_pure (wpAny_pure ⟨_, rfl, wpAny_pure h⟩)) htake))
    | exact wpAny_bind (wpAny_bind (m := Builtin.Tuple.tupleExact _) (wpAny_newObj_type (wpAny_pure ⟨_, rfl, wpAny_pure h⟩) htake))
end
end HT

namespace L2
open PySem PySem.Spec PyProof.Rows

/-! ### the parts of a slice -/
abbrev TO := St → Hp → (Option Int → Hp → Prop) → Prop
/-- a slice's part (left out, or an int) -/
def PO (X : Cx) (e : Option Expr) (t : TO) : Prop :=
  ∀ (pins : List (Addr × Obj)) (s : Shared) (σ : St) (H : Hp) (Q : Option Int → Hp → Prop), Inv X pins σ H s → t σ H Q →
    wpAny (model X.prog X.w) X.A (evalPart e X.env) (fun u s' => ∃ o H', Inv X pins σ H' s' ∧ IsPart u o ∧ Q o H') X.xe s
def tNoPart : TO := fun _ H Q => Q none H
def tPart (t : TE) : TO := fun σ H Q => t σ H fun x H1 => ∃ i, x = .int i ∧ Q (some i) H1


section
variable {X : Cx} {e : Expr} {te : TE} {lo hi : Option Expr} {tl th : TO} {pos p2 : Pos}

theorem po_none : PO X none tNoPart := by
  intro pins s σ H Q I h
  rw [evalPart_none]
  exact wpAny_pure ⟨none, H, I, .none, h⟩
theorem po_some (h : PE X e te) : PO X (some e) (tPart te) := by
  intro pins s σ H Q I hw
  rw [evalPart_some]
  refine thn (h pins s σ H _ I hw) fun u s1 ⟨x, H1, I1, r1, q1⟩ => ?_
  obtain ⟨i, rfl, q⟩ := q1
  obtain ⟨t, rfl⟩ := r1
  exact ⟨some i, H1, I1, .int i t, q⟩

/-- what a slice of a value is, by values: the slice object stands at sl -/
def SlR (X : Cx) (r : V → Option Int → Option Int → Hp → VK → Prop) : Prop :=
  ∀ (pins : List (Addr × Obj)) (s : Shared) (σ : St) (H : Hp) (x : V) (v vl vu : Value) (lo hi : Option Int) (sl : Addr) (Q : VK), Inv X pins σ H s → RelV x v → s.heap.IsSliceOf sl vl vu .none → IsPart vl lo → IsPart vu hi → r x lo hi H Q →
    ∃ T id, typeLookup (.type T) "__getitem__" = pure (some (.builtin id)) ∧ s.TypeIs v T ∧ wpAny (model X.prog X.w) X.A (getItem v (.ref sl)) (EP X pins σ Q) X.xe s
def tSl (r : V → Option Int → Option Int → Hp → VK → Prop) (te : TE) (tl th : TO) : TE := fun σ H Q => te σ H fun x H1 => tl σ H1 fun l H2 => th σ H2 fun u H3 => r x l u H3 Q
/-- a[lo:hi], any a -/
theorem pe_slice {r : V → Option Int → Option Int → Hp → VK → Prop} (hr : SlR X r) (he : PE X e te) (hl : PO X lo tl) (hu : PO X hi th) : PE X (.Subscript e (.Slice lo hi none p2) pos) (tSl r te tl th) := by
  intro pins s σ H Q I h
  refine Subscript_ (thn (he pins s σ H _ I h) fun v s1 ⟨x, H1, I1, r1, q1⟩ => ?_)
  refine wpAny_Slice (thn (hl pins s1 σ H1 _ I1 q1) fun vl s2 ⟨l, H2, I2, pl, q2⟩ => thn (hu pins s2 σ H2 _ I2 q2) fun vu s3 ⟨u, H3, I3, pu, q3⟩ => ?_)
  rw [evalPart_none]
  refine wpAny_pure ?_
  have I4 : Inv X pins σ H3 { s3 with heap := s3.heap.push { cls := .type "slice", data := .fields #[vl, vu, .none] } } := I3.kept (t' := s3.toks) fun b ob q => Heap.get?_push_of_some _ q
  obtain ⟨T, id, hT, ht, hg⟩ := hr pins { s3 with heap := s3.heap.push { cls := .type "slice", data := .fields #[vl, vu, .none] } } σ H3 x v vl vu l u s3.heap.objs.size Q I4 r1 (Heap.IsSliceOf.new ..) pl pu q3
  show wpAny (model X.prog X.w) X.A (subscriptTail e (.Slice lo hi none p2) v (.ref s3.heap.objs.size)) (EP X pins σ Q) X.xe { s3 with heap := s3.heap.push { cls := .type "slice", data := .fields #[vl, vu, .none] } }
  exact tail_any (ops := [.ref s3.heap.objs.size, v]) ht hT hg (by with_unfolding_all rfl)

/-- the items of xs[lo:hi] -/
def cutV (xs : List V) (lo hi : Option Int) : List V := (xs.drop (HT.sIx xs.length 0 lo)).take (HT.sIx xs.length xs.length hi - HT.sIx xs.length 0 lo)
theorem cutV_length (xs : List V) (lo hi : Option Int) : (cutV xs lo hi).length ≤ xs.length := by
  unfold cutV
  rw [List.length_take, List.length_drop]
  omega
/-- t[lo:hi], not the whole of it (the whole would be t itself) -/
def rSlT (K : PySem.W.Frag) : V → Option Int → Option Int → Hp → VK → Prop := fun x lo hi H Q => ∃ a xs, x = .ref a ∧ SqT K H a xs ∧
  ¬ (HT.sIx xs.length 0 lo = 0 ∧ HT.sIx xs.length xs.length hi = xs.length) ∧ ∀ p, H p = none → Q (.ref p) (upd H p (.tup (cutV xs lo hi)))
theorem sl_tup : SlR X (rSlT X.K) := by
  intro pins s σ H x v vl vu lo hi sl Q I rx hs pl pu h
  obtain ⟨a, xs, rfl, hx, hw, q⟩ := h
  cases rx
  obtain ⟨its, r, ht, hz⟩ := I.tuple hx
  have hlen : its.toArray.size = xs.length := by rw [List.size_toArray]; exact r.length.symm
  refine ⟨"tuple", _, PyProof.Rows.slot_tuple_getitem.lookup, ht.typeIs, ?_⟩
  refine HT.getItem_tuple_cut ht hs pl pu (by rw [hlen]; exact hw) ?_ (by rw [hlen]; exact hz)
  rw [hlen]
  refine ⟨.ref s.heap.objs.size, _, I.laid (t' := s.toks) (o := .tup (cutV xs lo hi)) (fun b ob q => Heap.get?_push_of_some _ q) (Nat.le_refl _) ?_, rfl, q _ (I.hok.fresh (Nat.le_refl _))⟩
  exact ⟨Nat.le_trans (cutV_length xs lo hi) hz, _, (r.drop (HT.sIx xs.length 0 lo)).take (HT.sIx xs.length xs.length hi - HT.sIx xs.length 0 lo), IsTup.new _ _⟩

/-! ### t < u, t + u -/
end
end L2

namespace L2
open PySem PySem.Spec PyProof.Rows

/-! ### places -/
/-- the place that an index of any sign means -/
def ixN (n : Nat) (i : Int) : Option Nat := if 0 ≤ i then (if i < n then some i.toNat else none) else if -(n : Int) ≤ i then some (i + n).toNat else none
def atI {α : Type} (xs : List α) (i : Int) : Option α := (ixN xs.length i).bind fun j => xs[j]?
theorem ixN_seq {n : Nat} {i : Int} {j : Nat} (h : ixN n i = some j) : seqIndex? i n = some j ∧ j < n ∧ -(n : Int) ≤ i ∧ i < n := by
  unfold ixN at h
  by_cases h0 : 0 ≤ i
  · rw [if_pos h0] at h
    by_cases h1 : i < n
    · rw [if_pos h1] at h
      have e : i.toNat = j := Option.some.inj h
      exact ⟨by rw [seqIndex_of h0 h1, e], by omega, by omega, h1⟩
    · rw [if_neg h1] at h; cases h
  · rw [if_neg h0] at h
    by_cases h1 : -(n : Int) ≤ i
    · rw [if_pos h1] at h
      have e : (i + n).toNat = j := Option.some.inj h
      exact ⟨by rw [seqIndex_neg (by omega) h1, e], by omega, h1, by omega⟩
    · rw [if_neg h1] at h; cases h
theorem atI_get {α : Type} {xs : List α} {i : Int} {v : α} (h : atI xs i = some v) : ∃ j, seqIndex? i xs.length = some j ∧ xs[j]? = some v ∧ j < xs.length ∧ -(xs.length : Int) ≤ i ∧ i < xs.length := by
  unfold atI at h
  cases e : ixN xs.length i with
  | none => rw [e] at h; cases h
  | some j =>
    rw [e] at h
    obtain ⟨h1, h2, h3, h4⟩ := ixN_seq e
    exact ⟨j, h1, h, h2, h3, h4⟩
theorem atI_nat {α : Type} {xs : List α} {j : Nat} {v : α} (h : xs[j]? = some v) : atI xs (j : Int) = some v := by
  have hj : j < xs.length := (List.getElem?_eq_some_iff.mp h).1
  have e : ixN xs.length (j : Int) = some j := by
    unfold ixN
    rw [if_pos (by omega), if_pos (by omega)]; simp
  unfold atI; rw [e]; exact h
theorem atI_last {α : Type} (xs : List α) (v : α) : atI (xs ++ [v]) (-1) = some v := by
  have hl : (xs ++ [v]).length = xs.length + 1 := by simp
  have e : ixN (xs ++ [v]).length (-1) = some xs.length := by
    unfold ixN
    rw [hl, if_neg (by decide), if_pos (by omega)]
    congr 1
    omega
  unfold atI
  rw [e]
  show (xs ++ [v])[xs.length]? = some v
  simp

/-! ### what may be subscripted -/
/-- what stands as an index of a plain subscript -/
def PlainIx (b : Expr) : Prop := ∀ o i, subscripted b false o i = operate [o, i] (getItem o i)
/-- a subscript by values -/
def IxR (X : Cx) (r : R2) : Prop :=
  ∀ (value slice : Expr) (pins : List (Addr × Obj)) (s : Shared) (σ : St) (H : Hp) (x y : V) (v u : Value) (Q : VK), Inv X pins σ H s → RelV x v → RelV y u → r x y H Q →
    subscripted slice false v u = operate [v, u] (getItem v u) → wpAny (model X.prog X.w) X.A (subscriptTail value slice v u) (EP X pins σ Q) X.xe s
/-- a call of a builtin's method by values: the receiver, the arguments -/
def MtR (X : Cx) (id : String) (r : V → List V → Hp → VK → Prop) : Prop :=
  ∀ (pins : List (Addr × Obj)) (s : Shared) (σ : St) (H : Hp) (x : V) (xs : List V) (v : Value) (us : List Value) (Q : VK), Inv X pins σ H s → RelV x v → Vals xs us → r x xs H Q →
    wpAny (model X.prog X.w) X.A (call (.builtin id) (v :: us)) (EP X pins σ Q) X.xe s
section
variable {X : Cx} {a b : Expr} {ta tb : TE} {pos : Pos}
/-- a[b] -/
theorem pe_ix {r : R2} (hr : IxR X r) (ha : PE X a ta) (hb : PE X b tb) (hs : PlainIx b) : PE X (.Subscript a b pos) (tOp r ta tb) := by
  intro pins s σ H Q I h
  exact Subscript_ (binT ha hb I h fun v u s2 x y H2 I2 rx ry q => hr a b pins s2 σ H2 x y v u Q I2 rx ry q (hs _ _))

def rIxL (K : PySem.W.Frag) : R2 := fun x y H Q => ∃ p xs i v, x = .ref p ∧ y = .int i ∧ SqL K H p xs ∧ atI xs i = some v ∧ Q v H
def rIxT (K : PySem.W.Frag) : R2 := fun x y H Q => ∃ p xs i v, x = .ref p ∧ y = .int i ∧ SqT K H p xs ∧ atI xs i = some v ∧ Q v H
theorem ix_list : IxR X (rIxL X.K) := by
  intro value slice pins s σ H x y v u Q I rx ry h hs
  obtain ⟨p, xs, i, z, rfl, rfl, hq, he, q⟩ := h
  cases rx
  obtain ⟨t, rfl⟩ := ry
  obtain ⟨its, r, pl, hz⟩ := I.list hq
  obtain ⟨j, h1, h2, h3, h4, h5⟩ := atI_get he
  obtain ⟨w, ew, rw'⟩ := r.get h2
  have hl := r.length
  have hn := line63
  have fin : EP X pins σ Q w s := ⟨z, H, I, rw', q⟩
  by_cases h0 : 0 ≤ i
  · have hj : i.toNat = j := by
      rw [seqIndex_of h0 h5] at h1
      exact Option.some.inj h1
    exact item_listR pl.isList h0 (by omega) (by rw [hj]; simpa using ew) fin hs
  · have hj : (i + (its.toArray.size : Int)).toNat = j := by
      rw [seqIndex_neg (by omega) h4] at h1
      rw [List.size_toArray, ← hl]
      exact Option.some.inj h1
    exact subscriptTail_builtinR (x := w) pl.isList.typeIs slot_list_getitem.lookup
      (wpAny_getItem_list_neg (Q := fun r s' => r = w ∧ EP X pins σ Q r s') pl.isList (by omega) (by rw [List.size_toArray] <;> omega) (by omega) (by rw [hj]; simpa using ew) ⟨rfl, fin⟩) hs
theorem ix_tup : IxR X (rIxT X.K) := by
  intro value slice pins s σ H x y v u Q I rx ry h hs
  obtain ⟨p, xs, i, z, rfl, rfl, hq, he, q⟩ := h
  cases rx
  obtain ⟨t, rfl⟩ := ry
  obtain ⟨its, r, pl, hz⟩ := I.tuple hq
  obtain ⟨j, h1, h2, h3, h4, h5⟩ := atI_get he
  obtain ⟨w, ew, rw'⟩ := r.get h2
  have hl := r.length
  have hn := line63
  have fin : EP X pins σ Q w s := ⟨z, H, I, rw', q⟩
  exact subscriptTail_builtinR (x := w) pl.typeIs slot_tuple_getitem.lookup
    (getItem_tuple (j := j) (Q := fun r s' => r = w ∧ EP X pins σ Q r s') pl (by omega) (by omega) (by rw [List.size_toArray, ← hl]; exact h1) (by simpa using ew) ⟨rfl, fin⟩) hs

/-! ### xs[i] = v, any sign -/
/-- the list's object behind a store -/
theorem mapSeq_set (its : List Value) (n j : Nat) (u : Value) : Obj.mapSeq (·.setIfInBounds j u) { cls := .type "list", data := .seq its.toArray n } = { cls := .type "list", data := .seq (its.set j u).toArray n } := by
  simp [Obj.mapSeq]
theorem Inv.lst {pins : List (Addr × Obj)} {σ : St} {H : Hp} {s : Shared} {p : Addr} {xs : List V} (I : Inv X pins σ H s) (h : H p = some (.lst xs)) :
    ∃ (its : List Value) (n : Nat), Vals xs its ∧ s.heap.get? p = some { cls := .type "list", data := .seq its.toArray n } ∧ xs.length ≤ sizeLine := by
  obtain ⟨z, its, n, r, e⟩ := I.hok p _ h
  exact ⟨its, n, r, e, z⟩
/-- the list at p is written by an update of its object -/
theorem Inv.lstUpd {pins : List (Addr × Obj)} {σ : St} {H : Hp} {s : Shared} {p : Addr} {xs ys : List V} {its its' : List Value} {n n' : Nat} {f : Obj → Obj} (I : Inv X pins σ H s) (h : H p = some (.lst xs))
    (ho : s.heap.get? p = some { cls := .type "list", data := .seq its.toArray n }) (hf : f { cls := .type "list", data := .seq its.toArray n } = { cls := .type "list", data := .seq its'.toArray n' }) (r : Vals ys its') (hz : ys.length ≤ sizeLine) (t : Nat) :
    Inv X pins σ (upd H p (.lst ys)) { s with heap := s.heap.update p f, toks := t } := by
  have e : (s.heap.update p f).get? p = some { cls := .type "list", data := .seq its'.toArray n' } := by
    rw [Heap.get?_update_self f ho (by rw [hf] <;> rfl), hf]
  refine I.write (x := p) (e := p) (by rw [h]; trivial) (.inl rfl) (fun b u hb q => (Heap.get?_update_other _ _ (Ne.symm hb)).trans q) ⟨_, e⟩ ?_
  exact ⟨hz, its', n', r, e⟩
def rSetL : V → V → V → Hp → (Hp → Prop) → Prop := fun o i v H Q => ∃ p xs k j, o = .ref p ∧ i = .int k ∧ H p = some (.lst xs) ∧ ixN xs.length k = some j ∧ Q (upd H p (.lst (xs.set j v)))
theorem set_list : PSet X rSetL := by
  intro pins s σ H o i v ov iv u Q I ro ri rv h
  obtain ⟨p, xs, k, j, rfl, rfl, hp, hj, q⟩ := h
  cases ro
  obtain ⟨t, rfl⟩ := ri
  obtain ⟨its, n, r, ho, hz⟩ := I.lst hp
  obtain ⟨h1, h2, h3, h4⟩ := ixN_seq hj
  have hl := r.length
  have hn := line63
  have I' : Inv X pins σ (upd H p (.lst (xs.set j v))) { s with heap := s.heap.update p (Obj.mapSeq (·.setIfInBounds j u)) } :=
    I.lstUpd hp ho (mapSeq_set its n j u) (r.set rv j) (by rw [List.length_set]; exact hz) s.toks
  by_cases h0 : 0 ≤ k
  · have hk : k.toNat = j := by
      rw [seqIndex_of h0 h4] at h1
      exact Option.some.inj h1
    exact PySem.W.ki_setAt ho h0 (by omega) (by rw [List.size_toArray, ← hl]; exact h4) (by rw [hk]; exact ⟨_, I', q⟩)
  · have hk : (k + (its.toArray.size : Int)).toNat = j := by
      rw [seqIndex_neg (by omega) h3] at h1
      rw [List.size_toArray, ← hl]
      exact Option.some.inj h1
    exact PySem.W.ki_setBack ho (by omega) (by rw [List.size_toArray, ← hl]; exact h3) (by omega) (by rw [hk]; exact ⟨_, I', q⟩)

/-! ### slices -/
theorem slice_bounds (lo hi : Option Int) (n : Nat) : (sliceBounds lo hi none n).1 = ((HT.sIx n 0 lo : Nat) : Int) ∧ (sliceBounds lo hi none n).2.1 = ((HT.sIx n n hi : Nat) : Int) ∧ (sliceBounds lo hi none n).2.2 = 1 := by
  refine ⟨?_, ?_, rfl⟩
  · cases lo with
    | none => simp [sliceBounds, HT.sIx]
    | some i =>
      simp only [sliceBounds, HT.sIx, Option.getD_none, show (1 : Int) > 0 by decide, if_true]
      by_cases h : i < 0
      · simp only [h, if_true] <;> omega
      · simp only [h, if_false] <;> omega
  · cases hi with
    | none => simp [sliceBounds, HT.sIx]
    | some i =>
      simp only [sliceBounds, HT.sIx, Option.getD_none, show (1 : Int) > 0 by decide, if_true]
      by_cases h : i < 0
      · simp only [h, if_true] <;> omega
      · simp only [h, if_false] <;> omega
theorem slicePick_cut (its : List Value) (lo hi : Option Int) : slicePick its.toArray lo hi none = ((its.drop (HT.sIx its.length 0 lo)).take (HT.sIx its.length its.length hi - HT.sIx its.length 0 lo)).toArray := by
  obtain ⟨h1, h2, h3⟩ := slice_bounds lo hi its.toArray.size
  unfold slicePick
  rw [h1, h2, h3]
  simp only [sliceRange_one, pick_run, List.size_toArray] <;> rfl
/-- xs[lo:hi] of a list: a new list -/
def rSlL (K : PySem.W.Frag) : V → Option Int → Option Int → Hp → VK → Prop := fun x lo hi H Q => ∃ a xs, x = .ref a ∧ SqL K H a xs ∧ ∀ p, H p = none → Q (.ref p) (upd H p (.lst (cutV xs lo hi)))
theorem sl_list : SlR X (rSlL X.K) := by
  intro pins s σ H x v vl vu lo hi sl Q I rx hs pl pu h
  obtain ⟨a, xs, rfl, hx, q⟩ := h
  cases rx
  obtain ⟨its, r, ht, hz⟩ := I.list hx
  have hlen := r.length
  refine ⟨"list", _, slot_list_getitem.lookup, ht.isList.typeIs, ?_⟩
  refine wpAny_getItem_list_slice ht.isList hs pl pu .none (by simp) ?_ (by rw [List.size_toArray] <;> omega)
  rw [slicePick_cut, ← hlen]
  refine ⟨.ref s.heap.objs.size, _, I.laid (t' := s.toks) (o := .lst (cutV xs lo hi)) (fun b ob q => Heap.get?_push_of_some _ q) (Nat.le_refl _) ?_, rfl, q _ (I.hok.fresh (Nat.le_refl _))⟩
  exact ⟨Nat.le_trans (cutV_length xs lo hi) hz, _, 0, (r.drop (HT.sIx xs.length 0 lo)).take (HT.sIx xs.length xs.length hi - HT.sIx xs.length 0 lo), Heap.get?_push_size _ rfl⟩

/-! ### in, not in: flat items -/
def flatV : V → Bool
  | .non => true
  | .bl _ => true
  | .int _ => true
  | .str _ => true
  | _ => false
/-- == of flat values -/
def eqV : V → V → Bool
  | .non, .non => true
  | .bl a, .bl b => a == b
  | .bl a, .int b => (if a then 1 else 0) == b
  | .int a, .bl b => a == (if b then 1 else 0)
  | .int a, .int b => a == b
  | .str a, .str b => a == b
  | _, _ => false
theorem eqAt_V {A : Around} {s : Shared} {y x : V} {u v : Value} (ry : RelV y u) (rx : RelV x v) (fy : flatV y = true) (fx : flatV x = true) : SeqAt.EqAt A s u v (eqV y x) := by
  cases y with
  | non =>
    cases ry
    cases x with
    | non => cases rx; exact SeqAt.EqAt.same _
    | bl b => cases rx; exact SeqAt.EqAt.none_bool b
    | int b => obtain ⟨t, rfl⟩ := rx; exact SeqAt.EqAt.none_int b t
    | str b => obtain ⟨t, rfl⟩ := rx; exact SeqAt.EqAt.none_str b t
    | _ => exact absurd (show false = true from fx) Bool.false_ne_true
  | bl a =>
    cases ry
    cases x with
    | non => cases rx; exact SeqAt.EqAt.bool_none a
    | bl b => cases rx; exact SeqAt.EqAt.bool_bool a b
    | int b => obtain ⟨t, rfl⟩ := rx; exact SeqAt.EqAt.bool_int a b t
    | str b => obtain ⟨t, rfl⟩ := rx; exact SeqAt.EqAt.bool_str a b t
    | _ => exact absurd (show false = true from fx) Bool.false_ne_true
  | int a =>
    obtain ⟨t', rfl⟩ := ry
    cases x with
    | non => cases rx; exact SeqAt.EqAt.int_none a t'
    | bl b => cases rx; exact SeqAt.EqAt.int_bool a t' b
    | int b => obtain ⟨t, rfl⟩ := rx; exact SeqAt.EqAt.int_int a t' b t
    | str b => obtain ⟨t, rfl⟩ := rx; exact SeqAt.EqAt.int_str a t' b t
    | _ => exact absurd (show false = true from fx) Bool.false_ne_true
  | str a =>
    obtain ⟨t', rfl⟩ := ry
    cases x with
    | non => cases rx; exact SeqAt.EqAt.str_none a t'
    | bl b => cases rx; exact SeqAt.EqAt.str_bool a t' b
    | int b => obtain ⟨t, rfl⟩ := rx; exact SeqAt.EqAt.str_int a t' b t
    | str b => obtain ⟨t, rfl⟩ := rx; exact SeqAt.EqAt.str_str a t' b t
    | _ => exact absurd (show false = true from fx) Bool.false_ne_true
  | _ => exact absurd (show false = true from fy) Bool.false_ne_true
/-- the items' answers, read off the values (a value's own answer does not lean on its token) -/
def eqU (x : V) (u : Value) : Bool := match u with
  | .none => eqV .non x
  | .bool b => eqV (.bl b) x
  | .int i _ => eqV (.int i) x
  | .str z _ => eqV (.str z) x
  | _ => false
theorem eqU_of {x y : V} {u : Value} (r : RelV y u) (f : flatV y = true) : eqU x u = eqV y x := by
  cases y with
  | non => cases r; rfl
  | bl b => cases r; rfl
  | int i => obtain ⟨t, rfl⟩ := r; rfl
  | str z => obtain ⟨t, rfl⟩ := r; rfl
  | _ => exact absurd (show false = true from f) Bool.false_ne_true
theorem any_eqU {x : V} : ∀ {xs : List V} {us : List Value}, Vals xs us → xs.all flatV = true → us.any (eqU x) = xs.any fun y => eqV y x
  | _, _, .nil, _ => rfl
  | y :: xs, u :: us, .cons r t, f => by
    rw [List.all_cons, Bool.and_eq_true] at f
    rw [List.any_cons, List.any_cons, eqU_of r f.1, any_eqU t f.2]
theorem mem_eqAt {A : Around} {s : Shared} {x : V} {v : Value} (rx : RelV x v) (fx : flatV x = true) : ∀ {xs : List V} {us : List Value}, Vals xs us → xs.all flatV = true → ∀ u ∈ us, SeqAt.EqAt A s u v (eqU x u)
  | _, _, .nil, _ => fun u hu => by cases hu
  | y :: xs, u :: us, .cons r t, f => fun u' hu => by
    rw [List.all_cons, Bool.and_eq_true] at f
    rcases List.mem_cons.mp hu with rfl | hu
    · rw [eqU_of r f.1]; exact eqAt_V r rx f.1 fx
    · exact mem_eqAt rx fx t f.2 u' hu
def inV (x : V) (xs : List V) : Bool := xs.any fun y => eqV y x
/-- x in a list or tuple of flat items -/
def rIn (K : PySem.W.Frag) (neg : Bool) : R2 := fun x y H Q => ∃ p xs, y = .ref p ∧ (SqL K H p xs ∨ SqT K H p xs) ∧ flatV x = true ∧ xs.all flatV = true ∧ Q (.bl (if neg then !inV x xs else inV x xs)) H
theorem op_notIn_seq : OpR X (compareOp .NotIn) (rIn X.K true) := by
  intro pins s σ H x y v u Q I rx ry h
  obtain ⟨p, xs, rfl, hq, fx, fs, q⟩ := h
  cases ry
  rcases hq with hq | hq
  · obtain ⟨its, r, pl, hz⟩ := I.list hq
    refine SeqAt.notIn_listAt (eqU x) pl.isList (fun w hw => mem_eqAt rx fx r fs w (by simpa using hw)) ⟨.bl _, H, I, rfl, ?_⟩
    rw [show its.toArray.any (eqU x) = its.any (eqU x) by simp, any_eqU r fs]
    exact q
  · obtain ⟨its, r, pl, hz⟩ := I.tuple hq
    refine SeqAt.notIn_tupleAt (eqU x) pl (fun w hw => mem_eqAt rx fx r fs w (by simpa using hw)) ⟨.bl _, H, I, rfl, ?_⟩
    rw [show its.toArray.any (eqU x) = its.any (eqU x) by simp, any_eqU r fs]
    exact q

/-! ### len, list(x), tuple(x) of any list or tuple that is read -/
theorem call_len_seq : CallR X (.builtin "len") (fun xs H Q => ∃ p ys, xs = [.ref p] ∧ (SqL X.K H p ys ∨ SqT X.K H p ys) ∧ Q (.int ys.length) H) := by
  intro pins s σ H xs us Q I r h
  obtain ⟨p, ys, rfl, hq, q⟩ := h
  obtain ⟨u, rfl, rx⟩ := vals1 r
  cases rx
  have hn := line63
  rcases hq with hq | hq
  · obtain ⟨its, r', pl, hz⟩ := I.list hq
    have hlen := r'.length
    exact Calls.call_len_list pl.isList (by simp only [List.size_toArray] <;> omega) ⟨.int ys.length, H, I.tok _, ⟨s.toks + 1, by rw [List.size_toArray, hlen]⟩, q⟩
  · obtain ⟨its, r', pl, hz⟩ := I.tuple hq
    have hlen := r'.length
    exact len_tuple pl (by simp only [List.size_toArray] <;> omega) ⟨.int ys.length, H, I.tok _, ⟨s.toks + 1, by rw [List.size_toArray, hlen]⟩, q⟩

/-! ### the call of a builtin's method: o.m(..) -/
/-- the value is of that builtin type -/
def tyV (K : PySem.W.Frag) (T : String) (x : V) (H : Hp) : Prop := match x with
  | .str _ => T = "str"
  | .int _ => T = "int"
  | .ref p => (T = "list" ∧ ∃ xs, SqL K H p xs) ∨ (T = "tuple" ∧ ∃ o, K.lookup p = some o ∧ o.cls = .type "tuple" ∧ o.dict = none) ∨
      (T = "dict" ∧ ((∃ kvs, H p = some (.dK kvs)) ∨ ∃ kvs, H p = some (.dT kvs))) ∨ (T = "set" ∧ ∃ S n, H p = some (.set S n))
  | _ => False
theorem tyV_is {pins : List (Addr × Obj)} {σ : St} {H : Hp} {s : Shared} {T : String} {x : V} {v : Value} (I : Inv X pins σ H s) (r : RelV x v) (ty : tyV X.K T x H) :
    s.TypeIs v T ∧ ∀ a, v = .ref a → ∃ ob, s.heap.get? a = some ob ∧ ob.dict = none := by
  cases x with
  | str z =>
    obtain ⟨t, rfl⟩ := r
    cases (show T = "str" from ty)
    exact ⟨typeIs_str s z t, fun _ e => nomatch e⟩
  | int i =>
    obtain ⟨t, rfl⟩ := r
    cases (show T = "int" from ty)
    exact ⟨typeIs_int s i t, fun _ e => nomatch e⟩
  | ref p =>
    cases r
    rcases ty with ⟨rfl, xs, hq⟩ | ⟨rfl, o, hk, hc, hd⟩ | ⟨rfl, hk⟩ | ⟨rfl, S, n, hk⟩
    · obtain ⟨its, _, pl, _⟩ := I.list hq
      refine ⟨pl.isList.typeIs, fun a e => ?_⟩
      cases e
      obtain ⟨o, n, e, c, hd, _⟩ := pl
      exact ⟨o, e, hd⟩
    · refine ⟨⟨o, I.kIn p o hk, hc⟩, fun a e => ?_⟩
      cases e
      exact ⟨o, I.kIn _ o hk, hd⟩
    · have z : ∃ o, s.heap.get? p = some o ∧ o.ExactDict := by
        rcases hk with ⟨kvs, hk⟩ | ⟨kvs, hk⟩
        · obtain ⟨_, _, _, _, o, _, _, e, ex, _⟩ := I.hok p _ hk
          exact ⟨o, e, ex⟩
        · obtain ⟨_, _, _, _, o, _, _, e, ex, _⟩ := I.hok p _ hk
          exact ⟨o, e, ex⟩
      obtain ⟨o, e, ex⟩ := z
      refine ⟨⟨o, e, ex.1⟩, fun a e2 => ?_⟩
      cases e2
      exact ⟨o, e, ex.2.1⟩
    · obtain ⟨o, _, _, _, e, ex, _⟩ := I.hok p _ hk
      refine ⟨⟨o, e, ex.1⟩, fun a e2 => ?_⟩
      cases e2
      exact ⟨o, e, ex.2.1⟩
  | _ => exact False.elim ty
def tBM0 (K : PySem.W.Frag) (T : String) (r : V → List V → Hp → VK → Prop) (to : TE) : TE := fun σ H Q => to σ H fun x H1 => tyV K T x H1 ∧ r x [] H1 Q
def tBM (K : PySem.W.Frag) (T : String) (r : V → List V → Hp → VK → Prop) (to : TE) (t : TA) : TE := fun σ H Q => to σ H fun x H1 => tyV K T x H1 ∧ t σ H1 fun xs H2 => r x xs H2 Q
variable {o e : Expr} {es : List Expr} {to : TE} {t : TA} {name : Str} {apos cpos : Pos} {T id : String} {r : V → List V → Hp → VK → Prop}
theorem pe_bm0 (pa : PlainAttrs T) (slot : Slot T name id) (hty : typeOf (.builtin id) = pure (.type "method_descriptor")) (hm : MtR X id r) (ho : PE X o to)
    (hbase : attributeBase o name X.env (eval o X.env) = eval o X.env := by rfl) (hline : (apos.endLine == cpos.line) = true := by rfl) : PE X (.Call (.Attribute o name apos) [] [] cpos) (tBM0 X.K T r to) := by
  intro pins s σ H Q I h
  refine wpAny_Call_method0_late hbase hline (thn (ho pins s σ H _ I h) fun v s1 ⟨x, H1, I1, r1, ty, q1⟩ => ?_)
  obtain ⟨h1, h2⟩ := tyV_is I1 r1 ty
  exact ⟨T, id, pa, slot, hty, h1, h2, Calls.callWith_builtin rfl (PySem.evalArgs_none (hm pins s1 σ H1 x [] v [] Q I1 r1 .nil q1))⟩
theorem pe_bm (pa : PlainAttrs T) (slot : Slot T name id) (hty : typeOf (.builtin id) = pure (.type "method_descriptor")) (hm : MtR X id r) (ho : PE X o to) (ha : PA X (e :: es) t)
    (hbase : attributeBase o name X.env (eval o X.env) = eval o X.env := by rfl)
    (hfew : ((backTo cpos (starEach (e :: es) X.env)).all (fun x => !x.1) && (backToKw cpos (keywordEach [] X.env)).all (fun x => x.1.isSome)
      && decide ((e :: es).length + ([] : List Keyword).length + (if ([] : List Keyword).isEmpty then 0 else 1) < 30)) = true := by rfl)
    (hline : (apos.endLine == cpos.line) = true := by rfl) (hs : starEach (e :: es) X.env = (false, eval e X.env) :: starEach es X.env := by rfl) (hplain : (backTo cpos (starEach es X.env)).any (·.1) = false := by rfl) :
    PE X (.Call (.Attribute o name apos) (e :: es) [] cpos) (tBM X.K T r to t) := by
  intro pins s σ H Q I h
  refine wpAny_Call_method_late hbase hfew hline rfl (thn (ho pins s σ H _ I h) fun v s1 ⟨x, H1, I1, r1, ty, q1⟩ => ?_)
  obtain ⟨h1, h2⟩ := tyV_is I1 r1 ty
  refine ⟨T, id, pa, slot, hty, h1, h2, ?_⟩
  have hA := ha cpos pins s1 σ H1 _ I1 q1
  rw [hs] at hA ⊢
  refine Calls.callWith_builtin (by show (false || (backTo cpos (starEach es X.env)).any (·.1)) = false; rw [hplain] <;> rfl) (Calls.evalArgs_plain ?_)
  exact thn hA fun us s2 ⟨vs, H2, I2, r2, q2⟩ => hm pins s2 σ H2 x vs v us Q I2 r1 r2 q2
/- xs.append(e), list.index on a module's tuple .. are MtR facts of 06m -/
end
end L2

namespace L2
open PySem PySem.Spec PyProof.Rows

def MtM (X : Cx) (id : String) (r : V → List V → Hp → VK → Prop) : Prop :=
  ∀ (pins : List (Addr × Obj)) (s : Shared) (σ : St) (H : Hp) (x : V) (xs : List V) (v : Value) (us : List Value) (Q : VK), Inv X pins σ H s → RelV x v → Vals xs us → r x xs H Q →
    wpAny (model X.prog X.w) X.A (call (.builtin id) (v :: us)) (EP X pins σ Q) X.xe s

/-! ### lists of values -/
theorem Vals.one : ∀ {x : V} {us : List Value}, Vals [x] us → ∃ u, us = [u] ∧ RelV x u
  | _, _, .cons r .nil => ⟨_, rfl, r⟩
theorem Vals.rep {xs : List V} {us : List Value} (h : Vals xs us) : ∀ k : Nat, Vals (List.replicate k xs).flatten (List.replicate k us).flatten
  | 0 => .nil
  | k + 1 => by
    rw [List.replicate_succ, List.replicate_succ, List.flatten_cons, List.flatten_cons]
    exact Vals.append h (Vals.rep h k)
theorem foldl_rep (its : List Value) : ∀ (k : Nat) (acc : List Value),
    List.foldl (fun x1 x2 => x1 ++ x2) acc.toArray (List.replicate k its.toArray) = (acc ++ (List.replicate k its).flatten).toArray
  | 0, acc => by simp
  | k + 1, acc => by
    have e : acc.toArray ++ its.toArray = (acc ++ its).toArray := by simp
    have e2 : (acc ++ its) ++ (List.replicate k its).flatten = acc ++ (List.replicate (k + 1) its).flatten := by
      rw [List.replicate_succ, List.flatten_cons, List.append_assoc]
    rw [← e2, ← foldl_rep its k (acc ++ its), ← e, List.replicate_succ, List.foldl_cons]

section
variable {X : Cx} {pins : List (Addr × Obj)} {σ : St} {H : Hp} {s : Shared} {l b : Addr} {xs ys zs : List V}

/-! ### the two steps: a tracked list is rewritten, a new list is laid -/
theorem Inv.lset {its its' : List Value} {n : Nat} {f : Array Value → Array Value} {t' : Nat} (I : Inv X pins σ H s) (hH : H l = some (.lst xs))
    (e : s.heap.get? l = some { cls := .type "list", data := .seq its.toArray n }) (hf : f its.toArray = its'.toArray) (hv : Vals ys its') (hz : ys.length ≤ sizeLine) :
    Inv X pins σ (upd H l (.lst ys)) { s with heap := s.heap.update l (Obj.mapSeq f), toks := t' } := by
  have q := PySem.IsL.update e f
  rw [hf] at q
  refine I.write (x := l) (e := l) (by rw [hH]; exact trivial) (.inl rfl) (fun b' u hb hu => (Heap.get?_update_other s.heap (Obj.mapSeq f) (Ne.symm hb)).trans hu) ⟨_, q⟩ ?_
  exact ⟨hz, its', _, hv, q⟩
theorem Inv.lnew {its : List Value} {t' : Nat} (I : Inv X pins σ H s) (hv : Vals ys its) (hz : ys.length ≤ sizeLine) :
    Inv X pins σ (upd H s.heap.objs.size (.lst ys)) { s with heap := s.heap.push { cls := .type "list", data := .seq its.toArray }, toks := t' } :=
  I.laid (fun _ _ q => Heap.get?_push_of_some _ q) (Nat.le_refl _) ⟨hz, its, 0, hv, Heap.get?_push_size _ rfl⟩
theorem Inv.fresh (I : Inv X pins σ H s) : H s.heap.objs.size = none := I.hok.fresh (Nat.le_refl _)
theorem Inv.lstM (I : Inv X pins σ H s) (hH : H l = some (.lst xs)) : xs.length ≤ sizeLine ∧ ∃ (its : List Value) (n : Nat), Vals xs its ∧ xs.length = its.length ∧ s.heap.get? l = some { cls := .type "list", data := .seq its.toArray n } := by
  obtain ⟨z, its, n, r, e⟩ := I.hok l _ hH
  exact ⟨z, its, n, r, r.length, e⟩

theorem notLongL {n : Nat} (h : n ≤ sizeLine) : Builtin.List.listTooLong n = false := by
  unfold Builtin.List.listTooLong
  exact decide_eq_false (by omega)
end

section
variable {X : Cx}

/-! ### methods -/
def rAppend : V → List V → Hp → VK → Prop := fun x vs H Q => ∃ l xs y, x = .ref l ∧ vs = [y] ∧ H l = some (.lst xs) ∧ xs.length < sizeLine ∧ Q .non (upd H l (.lst (xs ++ [y])))
theorem mt_append : MtM X "list.append" rAppend := by
  intro pins s σ H x vs v us Q I rx rv h
  obtain ⟨l, xs, y, rfl, rfl, hH, hz, q⟩ := h
  cases rx
  obtain ⟨u, rfl, ru⟩ := rv.one
  obtain ⟨z, its, n, r, hl, e⟩ := I.lstM hH
  refine call_meets F.slot_list_append ⟨_, e, rfl⟩ F.entry_list_append (F.args_list_append_2 _ _) (PySem.list_append l its.toArray n u (by rw [List.size_toArray]; omega)) ⟨e, ?_⟩
  refine ⟨.non, _, I.lset (its' := its ++ [u]) hH e (by simp) (r.append (.cons ru .nil)) ?_, rfl, q⟩
  rw [List.length_append, List.length_singleton]
  omega

def rExtend : V → List V → Hp → VK → Prop := fun x vs H Q => ∃ l b xs zs, x = .ref l ∧ vs = [.ref b] ∧ H l = some (.lst xs) ∧ H b = some (.lst zs) ∧ xs.length + zs.length ≤ sizeLine ∧ Q .non (upd H l (.lst (xs ++ zs)))
theorem mt_extend : MtM X "list.extend" rExtend := by
  intro pins s σ H x vs v us Q I rx rv h
  obtain ⟨l, b, xs, zs, rfl, rfl, hH, hB, hz, q⟩ := h
  cases rx
  obtain ⟨u, rfl, ru⟩ := rv.one
  cases ru
  obtain ⟨z, its, n, r, hl, e⟩ := I.lstM hH
  obtain ⟨z2, its2, n2, r2, hl2, e2⟩ := I.lstM hB
  have hsz : its.toArray.size + its2.toArray.size ≤ sizeLine := by rw [List.size_toArray, List.size_toArray]; omega
  have hlong : ¬ (!its.toArray.isEmpty && Builtin.List.listTooLong (its.toArray.size + its2.toArray.size)) = true := by
    rw [notLongL hsz, Bool.and_false]
    exact Bool.false_ne_true
  refine call_meets F.slot_list_extend ⟨_, e, rfl⟩ F.entry_list_extend (F.args_list_extend_2 _ _)
    (AutoSeq1.list_extend_list_list_0 l its.toArray n b its2.toArray n2 hlong (by rw [List.size_toArray]; omega) (by omega)) ⟨e, e2, ?_⟩
  refine ⟨.non, _, I.lset (its' := its ++ its2) hH e (by simp) (r.append r2) ?_, rfl, q⟩
  rw [List.length_append]
  omega





/-! ### list + list, list += list, list * int -/
def rCat : R2 := fun x y H Q => ∃ l b xs zs, x = .ref l ∧ y = .ref b ∧ H l = some (.lst xs) ∧ H b = some (.lst zs) ∧ xs.length + zs.length ≤ sizeLine ∧ ∀ p, H p = none → Q (.ref p) (upd H p (.lst (xs ++ zs)))
theorem op_cat : OpR X (binaryOp .Add) rCat := by
  intro pins s σ H x y v u Q I rx ry h
  obtain ⟨l, b, xs, zs, rfl, rfl, hH, hB, hz, q⟩ := h
  cases rx
  cases ry
  obtain ⟨z, its, n, r, hl, e⟩ := I.lstM hH
  obtain ⟨z2, its2, n2, r2, hl2, e2⟩ := I.lstM hB
  refine PySem.P.add_list e e2 ?_ (by rw [List.size_toArray, List.size_toArray]; omega)
  have ea : its.toArray ++ its2.toArray = (its ++ its2).toArray := by simp
  rw [ea]
  exact ⟨.ref _, _, I.lnew (t' := s.toks) (r.append r2) (by rw [List.length_append]; omega), rfl, q _ I.fresh⟩
/-- a list times an int (a negative one is nothing) -/
def rRep : R2 := fun x y H Q => ∃ l k xs, x = .ref l ∧ y = .int k ∧ H l = some (.lst xs) ∧ -(2 ^ 63) ≤ k ∧ k < 2 ^ 63 ∧ xs.length * k.toNat ≤ sizeLine ∧
  ∀ p, H p = none → Q (.ref p) (upd H p (.lst (List.replicate k.toNat xs).flatten))
theorem len_rep {α : Type} (xs : List α) (k : Nat) : (List.replicate k xs).flatten.length = k * xs.length := by
  induction k with
  | zero => simp
  | succ k ih => rw [List.replicate_succ, List.flatten_cons, List.length_append, ih, Nat.succ_mul, Nat.add_comm]
theorem op_rep : OpR X (binaryOp .Mult) rRep := by
  intro pins s σ H x y v u Q I rx ry h
  obtain ⟨l, k, xs, rfl, rfl, hH, h1, h2, hz, q⟩ := h
  cases rx
  obtain ⟨t, rfl⟩ := ry
  obtain ⟨z, its, n, r, hl, e⟩ := I.lstM hH
  have hlen : its.toArray.size * k.toNat ≤ sizeLine := by rw [List.size_toArray, ← hl]; exact hz
  have hcap : ¬ its.toArray.size * k.toNat > (2 ^ 63 - 1) / 8 := by
    have : (sizeLine : Nat) ≤ (2 ^ 63 - 1) / 8 := by decide
    omega
  have hfit : ¬ (!Builtin.List.listFitsIndex k) = true := by
    rw [fitsIndex_both h1 h2]
    exact Bool.false_ne_true
  have hlong : ¬ Builtin.List.listTooLong (its.toArray.size * k.toNat) = true := by
    rw [notLongL hlen]
    exact Bool.false_ne_true
  have hnew : List.foldl (fun x1 x2 => x1 ++ x2) #[] (List.replicate (if its.toArray.isEmpty = true then 0 else k.toNat) its.toArray) = (List.replicate k.toNat its).flatten.toArray := by
    have f0 : ∀ m : Nat, List.foldl (fun x1 x2 => x1 ++ x2) #[] (List.replicate m its.toArray) = (List.replicate m its).flatten.toArray := fun m => by
      have := foldl_rep its m []
      rw [List.nil_append] at this
      exact this
    rw [f0]
    cases its with
    | nil => simp
    | cons a r' => rw [if_neg (by simp)]
  refine wpAny_binaryOp_repeat_ref (T := "list") (U := "int") (by decide) ⟨_, e, rfl⟩ (fun s' => typeIs_int s' k t) noFill_list_mul F.fills_int_mul F.slot_int_rmul repeat_list F.slot_int_index.lookup
    (call_meets F.slot_int_rmul (typeIs_int s k t) F.entry_int_rmul (F.args_int_rmul_2 _ _) (int___rmul___int_list k t l its.toArray n)
      ⟨e, rfl, ⟨_, e, rfl⟩, call_meets F.slot_list_mul ⟨_, e, rfl⟩ F.entry_list_mul (F.args_list_mul_2 _ _) (AutoListH.list___mul___list_int_3 l its.toArray n k t hfit hcap hlong) ⟨e, ?_⟩⟩)
  rw [hnew]
  exact ⟨.ref _, _, I.lnew (t' := s.toks) (r.rep k.toNat) (by rw [len_rep, Nat.mul_comm]; exact hz), rfl, q _ I.fresh⟩

/-! ### del xs[i] -/
end

/-! ### xs[a:b] = ys -/
section
variable {prog : Program} {w : World} {A : Around} {E : Value → Shared → Prop} {s : Shared}
set_option maxRecDepth 100000 in
end

section
variable {X : Cx}
end
end L2

namespace L2
open PySem PySem.Spec PyProof.Rows

theorem Vals.ints : ∀ {ns : List Int} {us : List Value}, Vals (ns.map V.int) us → IntsAre us ns
  | [], us, h => by
    rw [List.map_nil] at h
    cases h
    exact IntsAre.nil
  | n :: ns, us, h => by
    rw [List.map_cons] at h
    cases h with
    | cons r t =>
      obtain ⟨k, rfl⟩ := r
      exact IntsAre.cons n k (Vals.ints t)
theorem Vals.ref1 {a : Addr} {us : List Value} (r : Vals [V.ref a] us) : us = [Value.ref a] := by
  cases r with
  | cons r t =>
    cases t
    cases r
    rfl

/-! ### the library's walks over a list of ints, kept objects alone -/
section
variable {prog : Program} {w : World} {A : Around} {E : Value → Shared → Prop} {s : Shared} {l : Addr} {its : List Value} {ns : List Int} {Q : Value → Shared → Prop}
theorem max_raw (hh : A.handled = none) (hl : s.heap.IsList l its.toArray) (hi : IntsAre its ns) (hne : 0 < ns.length)
    (h : ∀ h' tk M t', (∀ b o, s.heap.get? b = some o → h'.get? b = some o) → M ∈ ns → (∀ a, a ∈ ns → a ≤ M) → Q (.int M t') { s with heap := h', toks := tk }) : wpAny (model prog w) A (call (.builtin "max") [.ref l]) Q E s := by
  obtain ⟨xs, e⟩ := hi.allInts.items
  have hn : numsOf (intItems xs).toList = ns := by rw [← e]; exact hi.numsOf
  rw [nums_intItems] at hn
  subst hn
  rw [e] at hl
  have hsz : 0 < xs.size := by simpa using hne
  refine PySem.max_intList hh hl hsz fun v h' tk hv hk => ?_
  obtain ⟨t, rfl⟩ := intItems_at hv
  obtain ⟨h1, h2⟩ := argBest_gt (numAt xs) (xs.size - 1)
  refine h h' tk _ t hk ?_ fun a ha => ?_
  · rw [numAt_eq]; exact PySem.getD_mem (by rw [List.length_map, Array.length_toList]; omega)
  · obtain ⟨j, hj, rfl⟩ := mem_getD ha
    rw [List.length_map, Array.length_toList] at hj
    rw [← numAt_eq]; exact h2 j (by omega)
end

/-! ### the calls, by values (CallR of 03t; MtR of 06l) -/
section
variable {X : Cx}
/-- max(xs), min(xs) of a list of ints -/
def rMax (K : PySem.W.Frag) : List V → Hp → VK → Prop := fun vs H Q => ∃ (a : Addr) (ns : List Int), vs = [V.ref a] ∧ SqL K H a (ns.map V.int) ∧ 0 < ns.length ∧ ∀ m, m ∈ ns → (∀ y, y ∈ ns → y ≤ m) → Q (.int m) H
theorem cr_max (hc : X.calm = true) : CallR X (.builtin "max") (rMax X.K) := by
  intro pins s σ H vs us Q I r h
  obtain ⟨a, ns, rfl, hs, hne, q⟩ := h
  obtain ⟨its, rv, hl, _⟩ := I.list hs
  rw [Vals.ref1 r]
  exact max_raw (I.ok.hd hc) hl.isList rv.ints hne fun h' tk m t' hk h1 h2 => ⟨.int _, H, I.kept hk, ⟨_, rfl⟩, q m h1 h2⟩

/-! sorted, sort (fewer than 64 items: the library's own bound) -/
end

/-! ### list.index, flat items -/
section
variable {X : Cx}
end

/-! ### type(x) of an own instance; is, is not of a module's class -/
section
variable {X : Cx}
end

/-! ### any(xs), all(xs) of a list of bools -/
section
variable {X : Cx}
end

/-! ### == and != of data at any depth: none, bools, ints, texts, lists, tuples -/
mutual
inductive Dp (K : PySem.W.Frag) (H : Hp) : V → PyData → Prop
  | non : Dp K H .non .none
  | bl (b : Bool) : Dp K H (.bl b) (.bool b)
  | int (i : Int) : Dp K H (.int i) (.int i)
  | str (x : Str) : Dp K H (.str x) (.str x)
  | lst {a : Addr} {xs : List V} {ds : List PyData} : SqL K H a xs → DpAll K H xs ds → Dp K H (.ref a) (.list ds)
  | tup {a : Addr} {xs : List V} {ds : List PyData} : SqT K H a xs → DpAll K H xs ds → Dp K H (.ref a) (.tuple ds)
inductive DpAll (K : PySem.W.Frag) (H : Hp) : List V → List PyData → Prop
  | nil : DpAll K H [] []
  | cons {v : V} {vs : List V} {d : PyData} {ds : List PyData} : Dp K H v d → DpAll K H vs ds → DpAll K H (v :: vs) (d :: ds)
end
section
variable {X : Cx} {pins : List (Addr × Obj)} {σ : St} {H : Hp} {s : Shared}
mutual
theorem Dp.reads (I : Inv X pins σ H s) : ∀ (d : PyData) (v : V) (u : Value), Dp X.K H v d → RelV v u → ∃ as, Reads s.heap u d as
  | .none, _, _, h, r => by
    cases h
    cases r
    exact ⟨_, Reads.none⟩
  | .bool b, _, _, h, r => by
    cases h
    cases r
    exact ⟨_, Reads.bool b⟩
  | .int i, _, _, h, r => by
    cases h
    obtain ⟨t, rfl⟩ := r
    exact ⟨_, Reads.int i t⟩
  | .str x, _, _, h, r => by
    cases h
    obtain ⟨t, rfl⟩ := r
    exact ⟨_, Reads.str x t⟩
  | .list ds, _, _, h, r => by
    cases h with
    | lst hs ha =>
      cases r
      obtain ⟨its, rv, ⟨o, n, ho, hc, _, hd⟩, _⟩ := I.list hs
      obtain ⟨as, hr⟩ := Dp.readsAll I ds _ its ha rv
      exact ⟨_, Reads.list ho hc hd hr⟩
  | .tuple ds, _, _, h, r => by
    cases h with
    | tup hs ha =>
      cases r
      obtain ⟨its, rv, ⟨o, ho, hc, n, hd⟩, _⟩ := I.tuple hs
      obtain ⟨as, hr⟩ := Dp.readsAll I ds _ its ha rv
      exact ⟨_, Reads.tuple ho hc hd hr⟩
  | .dict _, _, _, h, _ => by cases h
theorem Dp.readsAll (I : Inv X pins σ H s) : ∀ (ds : List PyData) (vs : List V) (us : List Value), DpAll X.K H vs ds → Vals vs us → ∃ as, ReadsAll s.heap us ds as
  | [], _, _, h, r => by
    cases h
    cases r
    exact ⟨_, ReadsAll.nil⟩
  | d :: ds, _, _, h, r => by
    cases h with
    | cons h1 h2 =>
      cases r with
      | cons r1 r2 =>
        obtain ⟨as, q1⟩ := Dp.reads I d _ _ h1 r1
        obtain ⟨bs, q2⟩ := Dp.readsAll I ds _ _ h2 r2
        exact ⟨_, ReadsAll.cons q1 q2⟩
end
end
section
variable {X : Cx}
def rEqD (K : PySem.W.Frag) : R2 := fun x y H Q => ∃ d e, Dp K H x d ∧ Dp K H y e ∧ SeqAt.shaped d = true ∧ SeqAt.shaped e = true ∧ Q (.bl (PyData.eqv d e)) H
theorem op_eqD (hu : X.A.units + 64 < cLine) : OpR X (compareOp .Eq) (rEqD X.K) := by
  intro pins s σ H x y v u Q I rx ry h
  obtain ⟨d, e, hd, he, sd, se, q⟩ := h
  obtain ⟨as, r1⟩ := Dp.reads I d x v hd rx
  obtain ⟨bs, r2⟩ := Dp.reads I e y u he ry
  exact SeqAt.compareEq_shaped r1 r2 sd se hu ⟨.bl _, H, I, rfl, q⟩
end
end L2

namespace L2
open PySem PySem.Spec PyProof.Rows
abbrev CellAt (h : Heap) (c : Addr) (v : Option Value) : Prop := h.IsCell c v
def relS (scope sc : Scope) : Scope :=
  { scope with names := scope.names.map fun (n, k) => if (k == .free && sc.kind == .function && sc.names.lookup n == some .cell) then (n, .cell) else (n, k) }

def cloFrom (cells : List (Str × Addr)) : List (Str × NameKind) → List (Str × Addr) → List (Str × Addr)
  | [], acc => acc
  | (n, k) :: r, acc => if k == .free then cloFrom cells r ((n, (cells.lookup n).getD 0) :: acc) else cloFrom cells r acc

theorem closure_loop (env : Env) (f : Str × NameKind → List (Str × Addr) → Sem (ForInStep (List (Str × Addr))))
    (hf : ∀ n k c, f (n, k) c = if k == .free then (do let a ← cellOf env n; pure (.yield ((n, a) :: c))) else pure (.yield c)) :
    ∀ (names : List (Str × NameKind)) (acc : List (Str × Addr)), (∀ y ∈ names, y.2 = .free → ∃ c, env.cells.lookup y.1 = some c) → forIn names acc f = pure (cloFrom env.cells names acc)
  | [], acc, _ => by rw [List.forIn_nil]; rfl
  | (n, k) :: r, acc, h => by
    rw [List.forIn_cons, hf]
    have ih := fun acc => closure_loop env f hf r acc fun y hy => h y (List.mem_cons_of_mem _ hy)
    unfold cloFrom
    by_cases hk : (k == NameKind.free) = true
    · rw [if_pos hk, if_pos hk]
      obtain ⟨c, hc⟩ := h (n, k) List.mem_cons_self (by simpa using hk)
      have e : cellOf env n = pure c := by unfold cellOf; rw [hc]
      rw [e]
      have e2 : (env.cells.lookup n).getD 0 = c := by rw [hc]; rfl
      rw [e2]
      exact ih _
    · rw [if_neg hk, if_neg hk]
      exact ih _
theorem closure_ok {scope : Scope} {env : Env} (h : ∀ y ∈ scope.names, y.2 = .free → ∃ c, env.cells.lookup y.1 = some c) : closureFor scope env = pure (cloFrom env.cells scope.names []) := by
  simp only [closureFor]
  rw [closure_loop env _ (fun n k c => rfl) scope.names [] h]
  rfl

theorem mem_lookup {α : Type} : ∀ {l : List (Str × α)} {n : Str} {c : α}, (n, c) ∈ l → ∃ c', l.lookup n = some c'
  | (k, v) :: r, n, c, h => by
    rw [List.lookup_cons]
    cases hb : n == k with
    | true => exact ⟨_, rfl⟩
    | false =>
      rcases List.mem_cons.mp h with e | h
      · cases e; simp at hb
      · exact mem_lookup h

theorem cloFrom_mem {cells : List (Str × Addr)} : ∀ {names : List (Str × NameKind)} {acc : List (Str × Addr)} {n : Str} {c : Addr}, (n, c) ∈ cloFrom cells names acc → (n, c) ∈ acc ∨ ((n, .free) ∈ names ∧ c = (cells.lookup n).getD 0)
  | [], _, _, _, h => .inl h
  | (m, k) :: r, acc, n, c, h => by
    unfold cloFrom at h
    split at h
    · rename_i hk
      have hk : k = .free := by simpa using hk
      rcases cloFrom_mem h with h | ⟨h1, h2⟩
      · rcases List.mem_cons.mp h with e | h
        · cases e; exact .inr ⟨hk ▸ List.mem_cons_self, rfl⟩
        · exact .inl h
      · exact .inr ⟨List.mem_cons_of_mem _ h1, h2⟩
    · rcases cloFrom_mem h with h | ⟨h1, h2⟩
      · exact .inl h
      · exact .inr ⟨List.mem_cons_of_mem _ h1, h2⟩
theorem cloFrom_acc {cells : List (Str × Addr)} : ∀ {names : List (Str × NameKind)} {acc : List (Str × Addr)} {p : Str × Addr}, p ∈ acc → p ∈ cloFrom cells names acc
  | [], _, _, h => h
  | (m, k) :: r, acc, p, h => by
    unfold cloFrom
    split
    · exact cloFrom_acc (List.mem_cons_of_mem _ h)
    · exact cloFrom_acc h
theorem cloFrom_has {cells : List (Str × Addr)} : ∀ {names : List (Str × NameKind)} {acc : List (Str × Addr)} {n : Str}, (n, .free) ∈ names → (n, (cells.lookup n).getD 0) ∈ cloFrom cells names acc
  | (m, k) :: r, acc, n, h => by
    unfold cloFrom
    rcases List.mem_cons.mp h with e | h
    · cases e
      exact cloFrom_acc List.mem_cons_self
    · split
      · exact cloFrom_has h
      · exact cloFrom_has h

theorem cells_mem : ∀ {names : List (Str × NameKind)} {h : Heap} {acc : List (Str × Addr)} {x : Str} {c : Addr}, (x, c) ∈ cellsFrom h.objs.size names acc →
    (x, c) ∈ acc ∨ ((x, .cell) ∈ names ∧ h.objs.size ≤ c ∧ CellAt (pushCells h names) c none)
  | [], _, _, _, _, h => .inl h
  | (n, k) :: r, h, acc, x, c, hm => by
    unfold cellsFrom at hm
    unfold pushCells
    split at hm
    · rename_i hk
      rw [if_pos hk]
      have hk : k = .cell := by simpa using hk
      rw [← Heap.size_push h { cls := .type "cell", data := .cell none }] at hm
      rcases cells_mem hm with hm | ⟨h1, h2, h3⟩
      · rcases List.mem_cons.mp hm with e | hm
        · cases e
          exact .inr ⟨hk ▸ List.mem_cons_self, Nat.le_refl _, _, pushCells_keeps r _ _ _ (Heap.get?_push_size _ rfl), rfl⟩
        · exact .inl hm
      · rw [Heap.size_push] at h2
        exact .inr ⟨List.mem_cons_of_mem _ h1, Nat.le_of_succ_le h2, h3⟩
    · rename_i hk
      rw [if_neg hk]
      rcases cells_mem hm with hm | ⟨h1, h2, h3⟩
      · exact .inl hm
      · exact .inr ⟨List.mem_cons_of_mem _ h1, h2, h3⟩
theorem cells_acc : ∀ {names : List (Str × NameKind)} {n : Nat} {acc : List (Str × Addr)} {p : Str × Addr}, p ∈ acc → p ∈ cellsFrom n names acc
  | [], _, _, _, h => h
  | (m, k) :: r, n, acc, p, h => by
    unfold cellsFrom
    split
    · exact cells_acc (List.mem_cons_of_mem _ h)
    · exact cells_acc h
theorem cells_has : ∀ {names : List (Str × NameKind)} {n : Nat} {acc : List (Str × Addr)} {x : Str}, (x, .cell) ∈ names → ∃ c, (x, c) ∈ cellsFrom n names acc
  | (m, k) :: r, n, acc, x, h => by
    unfold cellsFrom
    rcases List.mem_cons.mp h with e | h
    · cases e
      exact ⟨n, cells_acc List.mem_cons_self⟩
    · split
      · exact cells_has h
      · exact cells_has h
theorem cells_inj : ∀ {names : List (Str × NameKind)} {h : Heap} {acc : List (Str × Addr)} {x y : Str} {c : Addr}, (∀ p ∈ acc, p.2 < h.objs.size) → (∀ x y c, (x, c) ∈ acc → (y, c) ∈ acc → x = y) →
    (x, c) ∈ cellsFrom h.objs.size names acc → (y, c) ∈ cellsFrom h.objs.size names acc → x = y
  | [], _, _, _, _, _, _, hi, h1, h2 => hi _ _ _ h1 h2
  | (n, k) :: r, h, acc, x, y, c, hl, hi, h1, h2 => by
    unfold cellsFrom at h1 h2
    split at h1
    · rename_i hk
      rw [if_pos hk] at h2
      rw [← Heap.size_push h { cls := .type "cell", data := .cell none }] at h1 h2
      refine cells_inj (h := h.push _) (fun p hp => ?_) (fun x y c a b => ?_) h1 h2
      · rw [Heap.size_push]
        rcases List.mem_cons.mp hp with rfl | hp
        · exact Nat.lt_succ_self _
        · exact Nat.lt_succ_of_lt (hl p hp)
      · rcases List.mem_cons.mp a with e | a <;> rcases List.mem_cons.mp b with e' | b
        · cases e; cases e'; rfl
        · cases e; exact absurd (hl _ b) (Nat.lt_irrefl _)
        · cases e'; exact absurd (hl _ a) (Nat.lt_irrefl _)
        · exact hi _ _ _ a b
    · rename_i hk
      rw [if_neg hk] at h2
      exact cells_inj hl hi h1 h2

theorem newEnv_comp {M : Model} {A : Around} {E : Value → Shared → Prop} {s : Shared} {scope : Scope} {globals : Addr} {closure : List (Str × Addr)} {qual : Str} {func : Option Addr} {code : Value} {around : Env} {builtins : Addr} {Q : Env → Shared → Prop}
    (h : Q (newEnv scope s.heap.objs.size globals (cellsFrom (s.heap.objs.size + 1) scope.names closure) qual func code (some around) builtins)
      { s with heap := pushCells (s.heap.push { cls := .type "dict", data := .dict #[] }) scope.names }) :
    wpAny M A (newFunctionEnv scope globals closure [] qual func code (some around) builtins) Q E s := by
  simp only [newFunctionEnv, Option.isSome_some, if_true]
  refine wpAny_bind (wpAny_alloc ?_)
  refine wpAny_bind (wpAny_layCells _ (fun n k c => rfl) scope.names closure _ _ ?_)
  rw [show ({ s with heap := s.heap.push { cls := .type "dict", data := .dict #[] } } : Shared).heap.objs.size = s.heap.objs.size + 1 from Heap.size_push ..]
  rw [List.forIn_nil]
  exact wpAny_bind (wpAny_pure (wpAny_pure h))

/-- every name of the written scope, in the scope that runs -/
theorem lookup_relS {sc : Scope} : ∀ {names : List (Str × NameKind)} {x : Str} {k : NameKind},
    (names.map fun (n, k) => if (k == NameKind.free && sc.kind == .function && sc.names.lookup n == some .cell) then (n, NameKind.cell) else (n, k)).lookup x = some k →
    ∃ k', names.lookup x = some k' ∧ (k = k' ∨ (k' = .free ∧ k = .cell))
  | [], _, _, h => by simp at h
  | (n, k₀) :: r, x, k, h => by
    have ih := @lookup_relS sc r x k
    have h' : List.lookup x ((if (k₀ == NameKind.free && sc.kind == .function && sc.names.lookup n == some .cell) = true then (n, NameKind.cell) else (n, k₀)) :: (r.map _)) = some k := h
    cases hx : x == n with
    | true =>
      simp only [List.lookup_cons, hx]
      by_cases hc : (k₀ == NameKind.free && sc.kind == .function && sc.names.lookup n == some .cell) = true
      · rw [if_pos hc] at h'
        simp only [List.lookup_cons, hx] at h'
        cases h'
        simp only [Bool.and_eq_true, beq_iff_eq] at hc
        exact ⟨k₀, rfl, .inr ⟨hc.1.1, rfl⟩⟩
      · rw [if_neg hc] at h'
        simp only [List.lookup_cons, hx] at h'
        cases h'
        exact ⟨_, rfl, .inl rfl⟩
    | false =>
      simp only [List.lookup_cons, hx]
      by_cases hc : (k₀ == NameKind.free && sc.kind == .function && sc.names.lookup n == some .cell) = true
      · rw [if_pos hc] at h'
        simp only [List.lookup_cons, hx] at h'
        exact ih h'
      · rw [if_neg hc] at h'
        simp only [List.lookup_cons, hx] at h'
        exact ih h'



/-- the names of a comprehension's block: its own (with their places in N), or captured -/
structure BlkOk (N : List Str) (sc scope : Scope) (own : List (Str × Nat)) : Prop where
  kind : scope.kind = .function
  uniq : ∀ y ∈ scope.names, scope.names.lookup y.1 = some y.2
  ix : ∀ p ∈ own, N[p.2]? = some p.1
  free : ∀ y ∈ scope.names, y.2 = .free → sc.names.lookup y.1 = some .cell ∨ sc.names.lookup y.1 = some .free
  own : ∀ y ∈ scope.names, y.2 = .local ∨ y.2 = .cell → y.1 ∈ own.map (·.1) ∨ y.1 ∉ N
/-- the slots of the block's own names forgotten -/
def wipe (σ : St) : List Nat → St
  | [] => σ
  | v :: vs => (wipe σ vs).set v none
theorem wipe_length (σ : St) : ∀ vs : List Nat, (wipe σ vs).length = σ.length
  | [] => rfl
  | v :: vs => by unfold wipe; rw [List.length_set, wipe_length σ vs]
theorem wipe_some {σ : St} {i : Nat} {x : V} : ∀ {vs : List Nat}, (wipe σ vs)[i]? = some (some x) → σ[i]? = some (some x) ∧ i ∉ vs
  | [], h => ⟨h, by simp⟩
  | v :: vs, h => by
    unfold wipe at h
    by_cases hi : v = i
    · subst hi
      by_cases hv : v < (wipe σ vs).length
      · rw [List.getElem?_set_self hv] at h; cases h
      · rw [List.getElem?_eq_none (by simpa using hv)] at h; cases h
    · rw [List.getElem?_set_ne hi] at h
      obtain ⟨h1, h2⟩ := wipe_some h
      exact ⟨h1, by simp only [List.mem_cons, not_or]; exact ⟨fun e => hi e.symm, h2⟩⟩

/-- the context of a block that starts at s, its iterator's objects at fp -/
abbrev Cx.blk (X : Cx) (s : Shared) (H : Hp) (scope : Scope) (cenv : Env) (fp : List Addr) : Cx := { X with s_0 := s, H_0 := H, env := cenv, outer := X.stack, ex := fp, fn := fun x => scope.names.lookup x == some .cell, pn := [], xe := fun _ _ => False }
section
variable {X : Cx} {pins : List (Addr × Obj)} {σ : St} {H : Hp} {s : Shared}
theorem block_start {scope : Scope} {own : List (Str × Nat)} {fp : List Addr} (I : Inv X pins σ H s) (ok : BlkOk X.N X.env.scope scope own) (hN : X.N.Nodup) (hfp : ∀ b ∈ fp, FpOk X pins H b ∧ b < s.heap.objs.size) :
    Inv (X.blk s H scope (compEnvC scope (cellsFrom (s.heap.objs.size + 1) scope.names (cloFrom X.env.cells scope.names [])) s.heap.objs.size X.env) fp) [] (wipe σ (own.map (·.2))) H { s with heap := pushCells (s.heap.push { cls := .type "dict", data := .dict #[] }) scope.names } := by
  have hfree : ∀ y ∈ scope.names, y.2 = .free → ∃ c, X.env.cells.lookup y.1 = some c := fun y hy e => by
    rcases ok.free y hy e with k | k
    · exact I.ok.has _ (.inl k)
    · exact I.ok.has _ (.inr k)
  generalize hcenv : compEnvC scope (cellsFrom (s.heap.objs.size + 1) scope.names (cloFrom X.env.cells scope.names [])) s.heap.objs.size X.env = cenv
  have kp : ∀ b o, s.heap.get? b = some o → (pushCells (s.heap.push { cls := .type "dict", data := .dict #[] }) scope.names).get? b = some o := fun b o e => pushCells_keeps _ _ _ _ (Heap.get?_push_of_some _ e)
  have hL : cenv.locals = s.heap.objs.size := by rw [← hcenv]; rfl
  have hcl : cenv.cells = cellsFrom (s.heap.objs.size + 1) scope.names (cloFrom X.env.cells scope.names []) := by rw [← hcenv]; rfl
  have hsc : cenv.scope = relS scope X.env.scope := by rw [← hcenv]; rfl
  rw [← Heap.size_push s.heap { cls := .type "dict", data := .dict #[] }] at hcl
  have cm : ∀ {y c}, (y, c) ∈ cloFrom X.env.cells scope.names [] → X.env.cells.lookup y = some c ∧ c < s.heap.objs.size := fun {y c} hm => by
    rcases cloFrom_mem hm with hm | ⟨h1, rfl⟩
    · cases hm
    · obtain ⟨c, hc⟩ := hfree _ h1 rfl
      rw [hc]
      obtain ⟨w, z⟩ := I.cell _ _ hc
      exact ⟨rfl, z.lt⟩
  have mem : ∀ {y c}, cenv.cells.lookup y = some c → (X.env.cells.lookup y = some c ∧ c < s.heap.objs.size) ∨ (s.heap.objs.size + 1 ≤ c ∧ CellAt (pushCells (s.heap.push { cls := .type "dict", data := .dict #[] }) scope.names) c none) := fun {y c} e => by
    rw [hcl] at e
    rcases cells_mem (PySem.mem_of_lookup e) with hm | ⟨_, h2, h3⟩
    · exact .inl (cm hm)
    · rw [Heap.size_push] at h2; exact .inr ⟨h2, h3⟩
  have look : ∀ {y}, scope.names.lookup y = some .free → ∃ c, cenv.cells.lookup y = some c ∧ X.env.cells.lookup y = some c := fun {y} hl => by
    have hy : (y, NameKind.free) ∈ scope.names := PySem.mem_of_lookup hl
    obtain ⟨c', e'⟩ := mem_lookup (cells_acc (names := scope.names) (n := (s.heap.push { cls := .type "dict", data := .dict #[] }).objs.size) (cloFrom_has (cells := X.env.cells) (acc := []) hy))
    rw [← hcl] at e'
    refine ⟨c', e', ?_⟩
    rw [hcl] at e'
    rcases cells_mem (PySem.mem_of_lookup e') with hm | ⟨h1, _, _⟩
    · exact (cm hm).1
    · have := ok.uniq _ h1
      rw [hl] at this; cases this
  have okB : (X.blk s H scope cenv fp).Ok := by
    refine ⟨I.ok.mod, by show cenv.scope.kind = _; rw [hsc]; exact ok.kind, by show cenv.globals = _; rw [← hcenv]; exact I.ok.glob, by show cenv.builtins = _; rw [← hcenv]; exact I.ok.blt, by show s.heap.objs.size ≤ cenv.locals; rw [hL]; exact Nat.le_refl _,
      fun y z c e1 e2 => ?_, fun y hy => ?_, fun y c z e => ?_, I.ok.hd, I.ok.frames, .inl rfl, fun b hb => ⟨?_, fun y c e z => ?_⟩, I.bs, Nat.le_trans I.ok.bsz I.sz, fun b o e hb => ?_, fun b hb z => ?_, I.stack, I.stkFree⟩
    · have e1 : cenv.cells.lookup y = some c := e1
      have e2 : cenv.cells.lookup z = some c := e2
      rw [hcl] at e1 e2
      refine cells_inj (fun p hp => ?_) (fun y z c a b => I.ok.inj y z c (cm a).1 (cm b).1) (PySem.mem_of_lookup e1) (PySem.mem_of_lookup e2)
      rw [Heap.size_push]
      exact Nat.lt_succ_of_lt (cm (y := p.1) (c := p.2) hp).2
    · show ∃ c, cenv.cells.lookup y = some c
      have key : ∀ k, cenv.kindOf y = some k → (k = .cell ∨ k = .free) → ∃ c, cenv.cells.lookup y = some c := fun k hk hk' => by
        unfold Env.kindOf at hk
        rw [hsc] at hk
        obtain ⟨k', e, r⟩ := lookup_relS hk
        have : k' = .cell ∨ k' = .free := by
          rcases r with rfl | ⟨rfl, _⟩
          · exact hk'
          · exact .inr rfl
        rcases this with rfl | rfl
        · obtain ⟨c, hm⟩ := cells_has (n := (s.heap.push { cls := .type "dict", data := .dict #[] }).objs.size) (acc := cloFrom X.env.cells scope.names []) (PySem.mem_of_lookup e)
          obtain ⟨c', e'⟩ := mem_lookup hm
          exact ⟨c', by rw [hcl]; exact e'⟩
        · obtain ⟨c, h1, _⟩ := look e
          exact ⟨c, h1⟩
      rcases hy with hy | hy
      · exact key _ hy (.inl rfl)
      · exact key _ hy (.inr rfl)
    · have z : (scope.names.lookup y == some NameKind.cell) = true := z
      have z : scope.names.lookup y = some .cell := by simpa using z
      have e : cenv.cells.lookup y = some c := e
      rw [hcl] at e
      rcases cells_mem (PySem.mem_of_lookup e) with hm | ⟨_, h2, _⟩
      · rcases cloFrom_mem hm with hm | ⟨h1, _⟩
        · cases hm
        · have q := ok.uniq _ h1
          rw [z] at q; cases q
      · rw [Heap.size_push] at h2
        exact Nat.le_of_succ_le h2
    · show b ≠ cenv.locals
      rw [hL]; exact Nat.ne_of_lt (hfp b hb).2
    · have e : cenv.cells.lookup y = some c := e
      rcases mem e with ⟨h1, _⟩ | ⟨h1, _⟩
      · exact (hfp b hb).1.2.2.2.2.1 y c h1 z
      · have h2 : s.heap.objs.size + 1 ≤ b := by rw [← z]; exact h1
        exact absurd (Nat.lt_of_lt_of_le (hfp b hb).2 (Nat.le_of_succ_le h2)) (Nat.lt_irrefl _)
    · rcases (hfp b hb).1.2.2.2.1 with z | z
      · exact I.ok.noex b o e z
      · exact absurd (Nat.lt_of_lt_of_le (Heap.lt_size e) (Nat.le_trans I.ok.bsz z)) (Nat.lt_irrefl _)
    · rcases List.mem_cons.mp (I.stkSub b z) with z | z
      · exact (hfp b hb).1.2.1 z
      · exact (hfp b hb).1.2.2.1 z
  refine ⟨okB, rfl, I.bare, Un.kept kp, ⟨fun _ => none, ?_, fun i y av e1 e2 e3 => ?_⟩, fun y c e => ?_, ?_, fun y c e => ?_, fun p hp => ?_, I.hok.kept kp, by rw [wipe_length]; exact I.len⟩
  · show Heap.Ns _ cenv.locals _
    rw [hL]
    exact Heap.Ns.keeps (Heap.Ns.new ..) fun b o e => pushCells_keeps _ _ _ _ e
  · obtain ⟨e2, hne⟩ := wipe_some e2
    have hfr : scope.names.lookup y = some .free ∧ (cenv.kindOf y = some .cell ∨ cenv.kindOf y = some .free) := by
      have key : ∀ k, cenv.scope.names.lookup y = some k → k = .local ∨ k = .cell ∨ k = .free → scope.names.lookup y = some .free ∧ (cenv.kindOf y = some .cell ∨ cenv.kindOf y = some .free) := fun k hk hk' => by
        have hk0 := hk
        rw [hsc] at hk
        obtain ⟨k', e, r⟩ := lookup_relS hk
        have no : ¬ (k' = .local ∨ k' = .cell) := fun hh => by
          rcases ok.own _ (PySem.mem_of_lookup e) hh with e' | e'
          · obtain ⟨p, hp, hpy⟩ := List.mem_map.mp e'
            have e3 := ok.ix p hp
            have : p.1 = y := hpy
            rw [this] at e3
            exact hne (List.mem_map.mpr ⟨p, hp, nodup_ix hN e3 e1⟩)
          · exact e' (List.mem_of_getElem? e1)
        rcases r with rfl | ⟨rfl, rfl⟩
        · rcases hk' with rfl | rfl | rfl
          · exact absurd (.inl rfl) no
          · exact absurd (.inr rfl) no
          · exact ⟨e, .inr hk0⟩
        · exact ⟨e, .inl hk0⟩
      have e3 : Vis cenv.scope y := e3
      rcases e3 with e3 | e3 | e3
      · exact key _ e3 (.inl rfl)
      · exact key _ e3 (.inr (.inl rfl))
      · exact key _ e3 (.inr (.inr rfl))
    obtain ⟨m, hn, hl⟩ := I.loc
    have hvis : Vis X.env.scope y := (ok.free _ (PySem.mem_of_lookup hfr.1) rfl).elim (fun k => .inr (.inl k)) (fun k => .inr (.inr k))
    obtain ⟨w, r, q⟩ := hl i y av e1 e2 hvis
    refine ⟨w, r, .inr ⟨hfr.2, ?_⟩⟩
    obtain ⟨c, h1, h2⟩ := look hfr.1
    rcases q with ⟨k, _⟩ | ⟨_, c', e', z⟩
    · have k : X.env.scope.names.lookup y = some .local := k
      rcases ok.free _ (PySem.mem_of_lookup hfr.1) rfl with k' | k' <;> rw [show X.env.scope.names.lookup y = _ from k'] at k <;> cases k
    · rw [h2] at e'; cases e'
      exact ⟨c, h1, z.keeps kp⟩
  · have e : cenv.cells.lookup y = some c := e
    rcases mem e with ⟨h1, _⟩ | ⟨_, z⟩
    · obtain ⟨w, z⟩ := I.cell y c h1
      exact ⟨w, z.keeps kp⟩
    · exact ⟨_, z⟩
  · show H cenv.locals = none
    rw [hL]; exact I.hok.fresh (Nat.le_refl _)
  · have e : cenv.cells.lookup y = some c := e
    rcases mem e with ⟨h1, _⟩ | ⟨h1, _⟩
    · exact I.freeC y c h1
    · exact I.hok.fresh (Nat.le_of_succ_le h1)
  · exact absurd (show p ∈ ([] : List (Addr × Obj)) ++ [] from hp) (by simp)

/-- an item appended to a tracked list -/
theorem app_ok {E : Value → Shared → Prop} {D : Addr} {xs : List V} {y : V} {v : Value} {Q : Value → Shared → Prop} (I : Inv X pins σ H s) (hD : H D = some (.lst xs)) (hz : xs.length < sizeLine) (r : RelV y v)
    (h : ∀ s', Inv X pins σ (upd H D (.lst (xs ++ [y]))) s' → Q .none s') : wpAny (model X.prog X.w) X.A (call (.builtin "list.append") [.ref D, v]) Q E s := by
  obtain ⟨hz', its, n, ri, e⟩ := I.hok D _ hD
  have hl := ri.length
  refine append_at (hsz := by rw [List.size_toArray]; omega) e fun h' sb ho' => ?_
  refine h { s with heap := h' } (I.write (t' := s.toks) (by rw [hD]; trivial) (.inl rfl) (fun b u hb q => (sb.2 b hb).trans q) ⟨_, ho'⟩ ⟨by rw [List.length_append]; exact hz, its ++ [v], n + 1, ri.append (.cons r .nil), ?_⟩)
  rw [ho']
  simp

/-- a clause's tests -/
def PTs (X : Cx) (ifs : List Expr) (t : TT) : Prop :=
  ∀ (pins : List (Addr × Obj)) (s : Shared) (σ : St) (H : Hp) (Q : Bool → Hp → Prop), Inv X pins σ H s → t σ H Q →
    wpAny (model X.prog X.w) X.A (forIn ifs true fun c r => if r = true then do let ok ← isTrue c X.env (eval c X.env); pure (ForInStep.yield ok) else pure (ForInStep.yield r)) (TP X pins σ Q) X.xe s
def tYes : TT := fun _ H Q => Q true H
theorem pts_nil : PTs X [] tYes := fun _ _ _ H _ I h => wpAny_tests_nil ⟨H, I, h⟩
theorem pts_one {c : Expr} {t : TT} (h : PT X c t) : PTs X [c] t := fun pins s σ H Q I hw => wpAny_tests_one (h pins s σ H Q I hw)
end

theorem thnF {α : Type} {t : Sem α} {Q Q' : α → Shared → Prop} {M : Model} {A : Around} {E : Value → Shared → Prop} {s : Shared} (h : wpAny M A t Q (fun _ _ => False) s) (hQ : ∀ a s, Q a s → Q' a s) : wpAny M A t Q' E s := wpAny_mono h hQ fun _ _ z => False.elim z

/-- the loop of a list comprehension's block, the target of any form (codeAny_compLoop_tests asks a target that no tuple goes to; statement and proof follow it, PyProof/CompMap.lean:41-61, with the step letOwnedTupleGo kept) -/
theorem compLoop_any {prog : Program} {w : World} {A : Around} {R : Result → Shared → Prop} {s : Shared} {elt target iter : Expr} {ifs : List Expr} {scope : Scope} {pos : Pos} {it acc : Value} {env : Env} (I : Nat → Shared → Prop)
    (turn : ∀ n s, I n s → wpAny (model prog w) A (pyNext it) (fun r s₁ => match r with
      | none => R (.ok .next) s₁
      | some v => wpAny (model prog w) A (letOwnedTupleGo target it v) (fun _ s₁' => wpAny (model prog w) A (assign target env v) (fun _ s₂ =>
          wpAny (model prog w) A (forIn ifs true fun c r => if r = true then do let ok ← isTrue c env (eval c env); pure (ForInStep.yield ok) else pure (ForInStep.yield r)) (fun ok s₃ =>
            if ok = true then wpAny (model prog w) A (eval elt env) (fun x s₄ =>
              wpAny (model prog w) A (call (.builtin "list.append") [acc, x]) (fun _ s₅ => ∃ m, m < n ∧ I m s₅) (notedBy (model prog w) A env fun e s' => R (.error e) s') s₄) (notedBy (model prog w) A env fun e s' => R (.error e) s') s₃
            else ∃ m, m < n ∧ I m s₃) (notedBy (model prog w) A env fun e s' => R (.error e) s') s₂) (notedBy (model prog w) A env fun e s' => R (.error e) s') s₁') (notedBy (model prog w) A env fun e s' => R (.error e) s') s₁) (notedBy (model prog w) A env fun e s' => R (.error e) s') s)
    (n : Nat) (h : I n s) :
    codeAny (model prog w) A (.compLoop (.ListComp elt [⟨target, iter, ifs, 0⟩] scope pos) 0 it acc env) R s := by
  refine codeAny_loop rfl I (fun n s hI => ?_) n h
  show wpAny _ A ((compTurn (.ListComp elt [⟨target, iter, ifs, 0⟩] scope pos) 0 it acc env).onRaise (fun x => do noteFrame x env; theTreesLotGoes x)) _ _ s
  refine wpAny_noted ?_
  rw [compTurn_list]
  refine wpAny_bind (wpAny_standAt (wpAny_bind (wpAny_mono (turn n s hI) (fun r s₁ h₁ => ?_) fun _ _ h' => h')))
  cases r with
  | none => exact wpAny_pure h₁
  | some v =>
    refine wpAny_bind (wpAny_mono h₁ (fun _ s₁' h₁' => ?_) fun _ _ h' => h')
    refine wpAny_bind (wpAny_mono h₁' (fun _ s₂ h₂ => wpAny_bind (wpAny_mono h₂ (fun ok s₃ h₃ => ?_) fun _ _ h' => h')) fun _ _ h' => h')
    cases ok with
    | false => exact wpAny_pure ⟨rfl, h₃⟩
    | true =>
      exact wpAny_bind (wpAny_bind (wpAny_mono h₃ (fun x s₄ h₄ => wpAny_bind (wpAny_mono h₄ (fun _ s₅ h₅ => wpAny_pure (wpAny_pure ⟨rfl, h₅⟩)) fun _ _ h' => h')) fun _ _ h' => h'))

section
variable {X : Cx}
/-- [elt for target in iter if ..]: D the new list; W by the turn and a measure, Nx what a turn is to reach -/
def tLc (wi : TI) (g : TG) (tt : TT) (te : TE) (vs : List Nat) : TE := fun σ H Q => wi σ H fun J H1 => ∀ D, H1 D = none → ∃ W : Nat → Nat → Hp → Prop, (∃ m, W 0 m (upd H1 D (.lst []))) ∧ ∀ i m H, W i m H →
  (J.stop i H ∧ Q (.ref D) H) ∨ (J.go i H ∧ ∃ Nx : Hp → Prop, (∀ H', Nx H' → ∃ m', m' < m ∧ W (i + 1) m' H') ∧ ∀ x H', J.yld i H x H' → g x (wipe σ vs) H' fun σ2 H2 => wipe σ2 vs = wipe σ vs ∧ tt σ2 H2 fun b H3 =>
    if b = true then te σ2 H3 fun y H4 => ∃ acc, H4 D = some (.lst acc) ∧ acc.length < sizeLine ∧ Nx (upd H4 D (.lst (acc ++ [y]))) else Nx H3)
theorem lc_core {pins : List (Addr × Obj)} {s : Shared} {σ : St} {H : Hp} {Q : VK} {elt tg iter : Expr} {ifs : List Expr} {scope : Scope} {own : List (Str × Nat)} {pos pos' : Pos} {wi : TI} {g : TG} {tt : TT} {te : TE} {use : Option (Value → Sem Unit)} {Qf : Value → Shared → Prop}
    (hc : X.calm = true) (hN : X.N.Nodup) (I : Inv X pins σ H s) (hi : PI X tg iter wi) (ok : BlkOk X.N X.env.scope scope own)
    (hg : ∀ (s : Shared) (H : Hp) (C : Addr) (cl : List (Str × Addr)) (fp : List Addr), PG (X.blk s H scope (compEnvC scope cl C X.env) fp) tg g) (ht : ∀ (s : Shared) (H : Hp) (C : Addr) (cl : List (Str × Addr)) (fp : List Addr), PTs (X.blk s H scope (compEnvC scope cl C X.env) fp) ifs tt)
    (he : ∀ (s : Shared) (H : Hp) (C : Addr) (cl : List (Str × Addr)) (fp : List Addr), PE (X.blk s H scope (compEnvC scope cl C X.env) fp) elt te) (hs : ∀ x, foldedSetIterable iter X.env x = pure x)
    (h : tLc wi g tt te (own.map (·.2)) σ H Q)
    (hRR : ∀ D C s' m H', Inv X pins σ H' s' → Q (.ref D) H' → s'.heap.Ns C m → FpOk X pins H' C → compPost (model X.prog X.w) X.A X.xe use Qf (.ref D) C (.ok .next) s') :
    wpAny (model X.prog X.w) X.A (comprehension (.ListComp elt [⟨tg, iter, ifs, 0⟩] scope pos) scope X.env pos' (newList []) false (eval iter X.env) use) Qf X.xe s := by
  have hfree : ∀ y ∈ scope.names, y.2 = .free → ∃ c, X.env.cells.lookup y.1 = some c := fun y hy e => by
    rcases ok.free y hy e with k | k
    · exact I.ok.has _ (.inl k)
    · exact I.ok.has _ (.inr k)
  refine wpAny_comprehension_free (use := use) rfl hs (closure_ok hfree) ok.kind (fun y hy e => by rw [ok.uniq y hy, e])
    (thn (hi pins s σ H _ I h) fun xv s1 hx => thn hx fun itv s2 h2 => ?_)
  obtain ⟨it, fp, tn, J, H2, e, I2, T, st2, f2, q⟩ := h2
  subst e
  refine wpAny_newObj_type (newEnv_comp ?_) (by show 0 ≤ sizeLine; decide)
  generalize hD : s2.heap.objs.size = D
  have hDn : H2 D = none := I2.hok.fresh (Nat.le_of_eq hD)
  obtain ⟨W, ⟨m0, w0⟩, turn⟩ := q D hDn
  -- the new list
  generalize hs3 : ({ s2 with heap := s2.heap.push { cls := .type "list", data := .seq ([] : List Value).toArray } } : Shared) = s3
  have I3 : Inv X pins σ (upd H2 D (.lst [])) s3 := by
    rw [← hs3]
    refine I2.laid (t' := s2.toks) (fun b o e => Heap.get?_push_of_some _ e) (Nat.le_of_eq hD) ⟨Nat.zero_le _, [], 0, .nil, ?_⟩
    rw [← hD]
    exact Heap.get?_push_size _ rfl
  have h3 : s3.heap = s2.heap.push { cls := .type "list", data := .seq ([] : List Value).toArray } := by rw [← hs3]
  have sz : ∀ b ∈ fp, b < s2.heap.objs.size := fun b hb => by
    obtain ⟨o, e, _⟩ := T.obj _ _ st2 b hb
    exact Heap.lt_size e
  have f3 : ∀ b ∈ fp, FpOk X pins (upd H2 D (.lst [])) b ∧ b < s3.heap.objs.size := fun b hb => by
    have hlt := sz b hb
    refine ⟨⟨?_, (f2 b hb).2⟩, by rw [h3, Heap.size_push]; exact Nat.lt_succ_of_lt hlt⟩
    rw [upd_ne (by rw [← hD]; exact Nat.ne_of_lt hlt)]
    exact (f2 b hb).1
  have st3 : tn 0 s3.heap := T.keep _ _ _ st2 fun b _ o e => by rw [h3]; exact Heap.get?_push_of_some _ e
  have I4 := block_start I3 ok hN f3
  have pg := hg s3 (upd H2 D (.lst [])) s3.heap.objs.size (cellsFrom (s3.heap.objs.size + 1) scope.names (cloFrom X.env.cells scope.names [])) fp
  have pt := ht s3 (upd H2 D (.lst [])) s3.heap.objs.size (cellsFrom (s3.heap.objs.size + 1) scope.names (cloFrom X.env.cells scope.names [])) fp
  have pe := he s3 (upd H2 D (.lst [])) s3.heap.objs.size (cellsFrom (s3.heap.objs.size + 1) scope.names (cloFrom X.env.cells scope.names [])) fp
  show codeAny _ _ (.compStart (.ListComp elt [⟨tg, iter, ifs, 0⟩] scope pos) 0 (.ref it) (.ref D) (compEnvC scope (cellsFrom (s3.heap.objs.size + 1) scope.names (cloFrom X.env.cells scope.names [])) s3.heap.objs.size X.env)) (compPost (model X.prog X.w) X.A X.xe use Qf (.ref D) s3.heap.objs.size) { s3 with heap := pushCells (s3.heap.push { cls := .type "dict", data := .dict #[] }) scope.names }
  have nfp : ∀ b ∈ fp, (upd H2 D (.lst [])) b = none := fun b hb => (f3 b hb).1.1
  generalize hce : compEnvC scope (cellsFrom (s3.heap.objs.size + 1) scope.names (cloFrom X.env.cells scope.names [])) s3.heap.objs.size X.env = ce at I4 pg pt pe ⊢
  have cL : ce.locals = s3.heap.objs.size := by subst hce; rfl
  generalize hH3 : upd H2 D (.lst []) = H3 at I3 I4 pg pt pe w0 nfp f3
  generalize hs4 : ({ s3 with heap := pushCells (s3.heap.push { cls := .type "dict", data := .dict #[] }) scope.names } : Shared) = s4 at I4 ⊢
  have st4 : tn 0 s4.heap := T.keep _ _ _ st3 fun b _ o e => by rw [← hs4]; exact pushCells_keeps _ _ _ _ (Heap.get?_push_of_some _ e)
  have stat : ∀ {σ' : St} {H' : Hp} {s' : Shared}, Inv (X.blk s3 H3 scope ce fp) [] σ' H' s' → (∀ b ∈ fp, H' b = none) → ∀ b ∈ fp, FpOk (X.blk s3 H3 scope ce fp) [] H' b := fun {σ' H' s'} I' hn b hb =>
    ⟨hn b hb, (I'.ok.exf b hb).1, I'.ok.exfs b hb, .inl hb, fun x c e => (I'.ok.exf b hb).2 x c e, fun p hp => absurd (show p ∈ ([] : List (Addr × Obj)) ++ [] from hp) (by simp)⟩
  have loop : codeAny (model X.prog X.w) X.A (.compLoop (.ListComp elt [⟨tg, iter, ifs, 0⟩] scope pos) 0 (.ref it) (.ref D) ce) (compPost (model X.prog X.w) X.A X.xe use Qf (.ref D) s3.heap.objs.size) s4 := by
    refine compLoop_any (fun n s' => ∃ i H', Inv (X.blk s3 H3 scope ce fp) [] (wipe σ (own.map (·.2))) H' s' ∧ tn i s'.heap ∧ (∀ b ∈ fp, H' b = none) ∧ W i n H') ?_ m0 ⟨0, H3, I4, st4, nfp, w0⟩
    rintro n s5 ⟨i, H5, I5, st5, n5, w5⟩
    rcases turn i n H5 w5 with ⟨stop, qq⟩ | ⟨go, Nx, hNx, step⟩
    · have td := T.done (X.blk s3 H3 scope ce fp) rfl rfl rfl hc i [] s5 _ H5 (fun _ _ => False) I5 (stat I5 n5) st5 stop
      refine thnF td fun r s6 ⟨hr, I6⟩ => ?_
      subst hr
      -- back in the def's context
      have I7 : Inv X pins σ H5 s6 := I3.call' (ch := fp) I6.os I6.base I6.hok I6.bare fun b hb => ⟨(f3 b hb).1.2.2.2.1, (f3 b hb).1.2.1, (f3 b hb).1.2.2.2.2.1, (f3 b hb).1.2.2.2.2.2⟩
      have nC : H5 s3.heap.objs.size = none := by
        have z : H5 ce.locals = none := I6.free
        rw [cL] at z
        exact z
      obtain ⟨m, hn, _⟩ := I6.loc
      have hn : s6.heap.Ns ce.locals m := hn
      rw [cL] at hn
      exact hRR D s3.heap.objs.size s6 m H5 I7 qq hn (I3.fpOk (Nat.le_refl _) nC)
    · have ti := T.item (X.blk s3 H3 scope ce fp) rfl rfl rfl hc i [] s5 _ H5 (fun _ _ => False) I5 (stat I5 n5) st5 go
      refine thnF ti fun r s6 ⟨u, hr, h6⟩ => ?_
      subst hr
      refine thnF h6 fun _ s7 ⟨x, H7, I7, r7, y7, st7, n7⟩ => ?_
      have I7' := I7.pinned (stat I7 n7) (T.obj _ _ st7)
      refine thnF (pg _ s7 _ H7 x u _ I7' r7 (step x H7 y7)) fun _ s8 ⟨σ8, H8, I8, hw8, q8⟩ => ?_
      refine thnF (pt _ s8 σ8 H8 _ I8 q8) fun b s9 ⟨H9, I9, q9⟩ => ?_
      -- the turn's end
      have fin : ∀ {s' : Shared} {H' : Hp}, Inv (X.blk s3 H3 scope ce fp) ([] ++ pinsAt fp s7.heap) σ8 H' s' → Nx H' → ∃ m, m < n ∧ ∃ i H', Inv (X.blk s3 H3 scope ce fp) [] (wipe σ (own.map (·.2))) H' s' ∧ tn i s'.heap ∧ (∀ b ∈ fp, H' b = none) ∧ W i m H' := fun {s' H'} I' nx => by
        obtain ⟨m', hm, w'⟩ := hNx H' nx
        have pin' : ∀ b ∈ fp, ∀ o, s7.heap.get? b = some o → s'.heap.get? b = some o ∧ H' b = none := fun b hb o e =>
          let z := I'.pin (b, o) (List.mem_append_right _ (List.mem_append_right _ (mem_pinsAt hb e)))
          ⟨z.1, z.2.1⟩
        have hl : (wipe σ (own.map (·.2))).length = σ8.length := by rw [← hw8, wipe_length]
        refine ⟨m', hm, i + 1, H', (I'.unpinned (pins := [])).weak hl (fun j v e => ?_), T.keep _ _ _ st7 fun b hb o e => (pin' b hb o e).1, fun b hb => ?_, w'⟩
        · rw [← hw8] at e
          exact (wipe_some e).1
        · obtain ⟨o, e, _⟩ := T.obj _ _ st7 b hb
          exact (pin' b hb o e).2
      cases b with
      | false =>
        simp only [Bool.false_eq_true, if_false] at q9 ⊢
        exact fin I9 q9
      | true =>
        simp only [if_true] at q9 ⊢
        refine thnF (pe _ s9 σ8 H9 _ I9 q9) fun z s10 ⟨yv, H10, I10, r10, acc, hD10, hz10, nx⟩ => ?_
        exact app_ok (X := X.blk s3 H3 scope ce fp) I10 hD10 hz10 r10 fun s11 I11 => fin I11 nx
  exact codeAny_compStart_list loop (T.self X.A 0 _ _ _ st4 loop)
/-- as a value -/
theorem pe_lc {elt tg iter : Expr} {ifs : List Expr} {scope : Scope} {own : List (Str × Nat)} {pos : Pos} {wi : TI} {g : TG} {tt : TT} {te : TE} (hc : X.calm = true) (hN : X.N.Nodup) (hi : PI X tg iter wi) (ok : BlkOk X.N X.env.scope scope own)
    (hg : ∀ (s : Shared) (H : Hp) (C : Addr) (cl : List (Str × Addr)) (fp : List Addr), PG (X.blk s H scope (compEnvC scope cl C X.env) fp) tg g) (ht : ∀ (s : Shared) (H : Hp) (C : Addr) (cl : List (Str × Addr)) (fp : List Addr), PTs (X.blk s H scope (compEnvC scope cl C X.env) fp) ifs tt)
    (he : ∀ (s : Shared) (H : Hp) (C : Addr) (cl : List (Str × Addr)) (fp : List Addr), PE (X.blk s H scope (compEnvC scope cl C X.env) fp) elt te) (hs : ∀ x, foldedSetIterable iter X.env x = pure x := by intro _; rfl) :
    PE X (.ListComp elt [⟨tg, iter, ifs, 0⟩] scope pos) (tLc wi g tt te (own.map (·.2))) := by
  intro pins s σ H Q I h
  rw [eval_ListComp]
  refine lc_core hc hN I hi ok hg ht he hs h fun D C s' m H' I' q hn f => ⟨m, hn, fun h'' sb => ?_⟩
  obtain ⟨f0, f1, f2, f3, f4, f5⟩ := f
  exact ⟨.ref D, H', I'.turned (t' := s'.toks) (fun b o hb e => (sb.2 b hb).trans e) f0 f1 f3 f4 f5, rfl, q⟩
end

/-! ### the forms one uses -/
/-- over a range: Pv by the turn and the heap (the new list at D within) -/
theorem lc_range {lo : Int} {n : Nat} {g : TG} {tt : TT} {te : TE} {vs : List Nat} {σ : St} {H1 : Hp} {D : Addr} {Qd : Hp → Prop} (Pv : Nat → Hp → Prop) (h0 : Pv 0 (upd H1 D (.lst [])))
    (hs : ∀ i H, i < n → Pv i H → g (.int (lo + i)) (wipe σ vs) H fun σ2 H2 => wipe σ2 vs = wipe σ vs ∧ tt σ2 H2 fun b H3 =>
      if b = true then te σ2 H3 fun y H4 => ∃ acc, H4 D = some (.lst acc) ∧ acc.length < sizeLine ∧ Pv (i + 1) (upd H4 D (.lst (acc ++ [y]))) else Pv (i + 1) H3) (hd : ∀ H, Pv n H → Qd H) :
    ∃ W : Nat → Nat → Hp → Prop, (∃ m, W 0 m (upd H1 D (.lst []))) ∧ ∀ i m H, W i m H →
      ((Itr lo n).stop i H ∧ Qd H) ∨ ((Itr lo n).go i H ∧ ∃ Nx : Hp → Prop, (∀ H', Nx H' → ∃ m', m' < m ∧ W (i + 1) m' H') ∧ ∀ x H', (Itr lo n).yld i H x H' → g x (wipe σ vs) H' fun σ2 H2 => wipe σ2 vs = wipe σ vs ∧ tt σ2 H2 fun b H3 =>
        if b = true then te σ2 H3 fun y H4 => ∃ acc, H4 D = some (.lst acc) ∧ acc.length < sizeLine ∧ Nx (upd H4 D (.lst (acc ++ [y]))) else Nx H3) := by
  refine ⟨fun i m H => m = n - i ∧ i ≤ n ∧ Pv i H, ⟨n, by simp, Nat.zero_le _, h0⟩, ?_⟩
  rintro i m H ⟨rfl, hi, p⟩
  by_cases hlt : i < n
  · refine .inr ⟨hlt, Pv (i + 1), fun H' p' => ⟨n - (i + 1), by omega, rfl, hlt, p'⟩, fun x H' y => ?_⟩
    obtain ⟨e, y⟩ := y
    subst e y
    exact hs i _ hlt p
  · have e : i = n := by omega
    subst e
    exact .inl ⟨Nat.le_refl _, hd H p⟩
/-- over a list that the block leaves as it is -/
theorem lc_list {K : PySem.W.Frag} {a : Addr} {xs : List V} {g : TG} {tt : TT} {te : TE} {vs : List Nat} {σ : St} {H1 : Hp} {D : Addr} {Qd : Hp → Prop} (Pv : Nat → Hp → Prop) (h0 : Pv 0 (upd H1 D (.lst []))) (hl : ∀ i H, i ≤ xs.length → Pv i H → SqL K H a xs)
    (hs : ∀ i x H, xs[i]? = some x → Pv i H → g x (wipe σ vs) H fun σ2 H2 => wipe σ2 vs = wipe σ vs ∧ tt σ2 H2 fun b H3 =>
      if b = true then te σ2 H3 fun y H4 => ∃ acc, H4 D = some (.lst acc) ∧ acc.length < sizeLine ∧ Pv (i + 1) (upd H4 D (.lst (acc ++ [y]))) else Pv (i + 1) H3) (hd : ∀ H, Pv xs.length H → Qd H) :
    ∃ W : Nat → Nat → Hp → Prop, (∃ m, W 0 m (upd H1 D (.lst []))) ∧ ∀ i m H, W i m H →
      ((Itl K a).stop i H ∧ Qd H) ∨ ((Itl K a).go i H ∧ ∃ Nx : Hp → Prop, (∀ H', Nx H' → ∃ m', m' < m ∧ W (i + 1) m' H') ∧ ∀ x H', (Itl K a).yld i H x H' → g x (wipe σ vs) H' fun σ2 H2 => wipe σ2 vs = wipe σ vs ∧ tt σ2 H2 fun b H3 =>
        if b = true then te σ2 H3 fun y H4 => ∃ acc, H4 D = some (.lst acc) ∧ acc.length < sizeLine ∧ Nx (upd H4 D (.lst (acc ++ [y]))) else Nx H3) := by
  refine ⟨fun i m H => m = xs.length - i ∧ i ≤ xs.length ∧ Pv i H, ⟨xs.length, by simp, Nat.zero_le _, h0⟩, ?_⟩
  rintro i m H ⟨rfl, hi, p⟩
  have q := hl i H hi p
  by_cases hlt : i < xs.length
  · refine .inr ⟨⟨xs, xs[i], q, by simp [hlt]⟩, Pv (i + 1), fun H' p' => ⟨xs.length - (i + 1), by omega, rfl, hlt, p'⟩, fun x H' y => ?_⟩
    obtain ⟨e, y⟩ := y
    subst e
    exact hs i x _ (y xs q) p
  · have e : i = xs.length := by omega
    subst e
    exact .inl ⟨⟨xs, q, Nat.le_refl _⟩, hd H p⟩
def blkC (N : List Str) (sc scope : Scope) (own : List (Str × Nat)) : Bool :=
  (match scope.kind with | .function => true | _ => false) && (scope.names.all fun y => decide (scope.names.lookup y.1 = some y.2)) && (own.all fun p => decide (N[p.2]? = some p.1)) &&
    (scope.names.all fun y => match y.2 with
      | .free => (match sc.names.lookup y.1 with | some .cell => true | some .free => true | _ => false)
      | .local => decide (y.1 ∈ own.map (·.1)) || decide (y.1 ∉ N)
      | .cell => decide (y.1 ∈ own.map (·.1)) || decide (y.1 ∉ N)
      | _ => true)
theorem blkOk_by {N : List Str} {sc scope : Scope} {own : List (Str × Nat)} (h : blkC N sc scope own = true) : BlkOk N sc scope own := by
  unfold blkC at h
  simp only [Bool.and_eq_true, List.all_eq_true, decide_eq_true_eq] at h
  obtain ⟨⟨⟨h1, h2⟩, h3⟩, h4⟩ := h
  refine ⟨?_, h2, h3, fun y hy e => ?_, fun y hy e => ?_⟩
  · split at h1
    · assumption
    · cases h1
  · have q := h4 y hy
    simp only [e] at q
    split at q <;> first | exact .inl (by assumption) | exact .inr (by assumption) | cases q
  · have q := h4 y hy
    rcases e with e | e <;> (simp only [e, Bool.or_eq_true, decide_eq_true_eq] at q; exact q)
end L2

namespace L2
open PySem PySem.Spec PyProof.Rows


section
variable {prog : Program} {w : World} {A : Around} {R : Result → Shared → Prop} {s : Shared} {elt t0 i0 t1 i1 : Expr} {ifs0 ifs1 : List Expr} {scope : Scope} {pos : Pos} {it acc : Value} {env : Env}
end

section
variable {X : Cx}
end
end L2

namespace L2
open PySem PySem.Spec PyProof.Rows

/-! ### lists of pairs as tables -/
section
variable {κ : Type} [DecidableEq κ]



end


/-! ### a tracked dict, its keys ints and texts or tuples of these -/


section
variable {P : Program} {w : World} {H : Hp} {h : Heap} {a : Addr}
end



section
variable {X : Cx} {pins : List (Addr × Obj)} {σ : St} {H : Hp} {s : Shared} {a : Addr} {y v : V} {u r : Value} {o : Option V} {A : Around} {E : Value → Shared → Prop}


end

section
variable {X : Cx} {pins : List (Addr × Obj)} {σ : St} {H : Hp} {s : Shared} {a : Addr} {kvs : List (Key × V)} {k : Key} {u : Value} {A : Around} {E : Value → Shared → Prop}
end


/-! ### readings and rules -/



section
variable {X : Cx} {o i e value : Expr} {pos pos' tpos : Pos} {td ty tv : TE}
end


/-! ### displays -/
section
variable {X : Cx} {pos : Pos}
end




/-! ### methods -/


section
variable {X : Cx} {pins : List (Addr × Obj)} {σ : St} {H : Hp} {s : Shared} {a : Addr} {y d : V} {u r : Value} {o : Option V} {A : Around} {E : Value → Shared → Prop}
end

section
variable {X : Cx} {o e f : Expr} {apos cpos : Pos} {td ty tx : TE}
end

/-! ### dict(d): a copy -/
section
variable {X : Cx} {pins : List (Addr × Obj)} {σ : St} {H : Hp} {s : Shared} {a : Addr} {kvs : List (Key × V)} {A : Around} {E : Value → Shared → Prop}
end


section
variable {X : Cx} {pins : List (Addr × Obj)} {σ : St} {H : Hp} {s : Shared} {a : Addr} {y : V} {u : Value} {A : Around} {E : Value → Shared → Prop}
end
end L2

namespace L2
open PySem PySem.Spec PyProof.Rows


section
variable {prog : Program} {w : World} {A : Around} {E : Value → Shared → Prop}


end

section
variable {X : Cx}
end
end L2

namespace L2
open PySem PySem.Spec PyProof.Rows


section
variable {X : Cx} {pins : List (Addr × Obj)} {σ : St} {H : Hp} {s : Shared} {h' : Heap}
/-- .. and one new object is laid -/
theorem Inv.turnedNew {t' : Nat} {ch : List Addr} {T : Addr} {ob : HO} (I : Inv X pins σ H s) (k : ∀ b o, b ∉ ch → s.heap.get? b = some o → h'.get? b = some o) (hf : ∀ b ∈ ch, FpOk X pins H b) (hT : s.heap.objs.size ≤ T)
    (new : ObjOk X.prog X.w (upd H T ob) h' T ob) : Inv X pins σ (upd H T ob) { s with heap := h', toks := t' } := by
  have hn : H T = none := I.hok.fresh hT
  have nit : ∀ b u, H b = some u → b ∉ ch := fun b u e z => by
    have q := (hf b z).1
    rw [q] at e; cases e
  refine I.step (g' := s.gens) (d' := s.drawn) (ch := ch) (fun b hb => ⟨(hf b hb).2.2.2.1, (hf b hb).2.1, (hf b hb).2.2.2.2.1, (hf b hb).2.2.2.2.2⟩) (fun b o _ _ hc e _ => k b o hc e) (fun b o _ _ hc e _ => ⟨o.slots, k b o hc e⟩)
    (fun b o _ e n => ?_) (fun b o hc e => ⟨o, k b o hc e⟩) (fun b xs e => ?_) (fun b o u e => ?_) (fun b ps e => ⟨#[], ?_⟩) (fun m hm => ?_) (fun b u e => ?_) I.bare
  · rw [upd_ne (Nat.ne_of_lt (Nat.lt_of_lt_of_le (Heap.lt_size e) hT))]; exact n
  · rw [upd_ne (ne_of_none e hn)]; exact e
  · rw [upd_ne (ne_of_none e hn)]; exact e
  · rw [upd_ne (ne_of_none e hn), e]; simp
  · obtain ⟨o, es, ep, ho, r⟩ := hm
    exact ⟨o, es, ep, k _ o (fun z => (hf _ z).2.1 rfl) ho, r⟩
  · by_cases hb : b = T
    · subst hb
      rw [upd_same] at e
      cases e
      exact new
    · rw [upd_ne hb] at e
      refine (I.hok b u e).stay (fun c v hc q => k c v ?_ q) (fun c q => by rw [upd_ne (ne_of_none q hn)]; exact q) fun c xs q => by rw [upd_ne (ne_of_none q hn)]; exact q
      rcases hc with z | z
      · rw [z]; exact nit b u e
      · exact nit c _ z

/-! ### locking a thing while a statement runs -/
end
section
variable {X : Cx}

/-! ### one iterator just laid -/
theorem pi_one {tg : Expr} {pins : List (Addr × Obj)} {σ : St} {H : Hp} {s : Shared} {R : It → Hp → Prop} {J : It} {tn : Nat → Heap → Prop} {tk : Nat} (I : Inv X pins σ H s) (o : Obj)
    (T : Turn X.prog X.w X.K tg J [s.heap.objs.size] s.heap.objs.size tn) (st : tn 0 (s.heap.push o)) (q : R J H) : PIE X pins σ tg R (.ref s.heap.objs.size) { s with heap := s.heap.push o, toks := tk } := by
  refine ⟨s.heap.objs.size, [s.heap.objs.size], tn, J, H, rfl, I.kept fun b ob e => Heap.get?_push_of_some _ e, T, st, fun b hb => ?_, q⟩
  have e : b = s.heap.objs.size := by simpa using hb
  subst e
  exact I.fpOk (Nat.le_refl _) (I.hok.fresh (Nat.le_refl _))
end

/-! ### range with a step -/
/-- lo, lo + c, .. (n of them) -/
def Itc (lo c : Int) (n : Nat) : It := ⟨fun i _ => i < n, fun i H x H' => H' = H ∧ x = .int (lo + (i : Nat) * c), fun i _ => n ≤ i⟩
theorem turn_rangeC {P : Program} {w : World} {K : PySem.W.Frag} {tg : Expr} (it : Addr) (lo c : Int) (n : Nat) : Turn P w K tg (Itc lo c n) [it] it (fun i h => IsRangeIter h it (lo + (i : Nat) * c) ((n : Int) - (i : Nat)) c) where
  mem := by simp
  obj := fun i h st b hb => by
    have e : b = it := by simpa using hb
    subst e
    exact ⟨_, st, fun v z => nomatch z⟩
  keep := fun i h h' st k => k it (by simp) _ st
  item := by
    intro X hP hw hK hc i pins s σ H E I hf st hg
    subst hP hw hK
    obtain ⟨f0, f1, f2, f3, f4, f5⟩ := hf it (by simp)
    have W := Walks.range (prog := X.prog) (w := X.w) (I.ok.hd hc) it lo c n
    refine W.item i s _ _ hg st fun v h' tk hv st' kk => ?_
    obtain ⟨t, rfl⟩ := hv
    have I1 : Inv X pins σ H { s with heap := h', toks := tk } := I.turned (fun b o hb e => kk b o (by simpa using hb) e) f0 f1 f3 f4 f5
    exact ⟨_, rfl, go_of (s := { s with heap := h', toks := tk }) (n := "range_iterator") st' rfl rfl (by decide) ⟨.int (lo + (i : Nat) * c), H, I1, ⟨t, rfl⟩, ⟨rfl, rfl⟩, st', fun b hb => (hf b hb).1⟩⟩
  done := by
    intro X hP hw hK hc i pins s σ H E I hf st hg
    subst hP hw hK
    obtain ⟨f0, f1, f2, f3, f4, f5⟩ := hf it (by simp)
    exact wpAny_pyNext_range_end (I.ok.hd hc) st (by have : n ≤ i := hg; omega) fun h' eb => ⟨rfl, I.turned (t' := s.toks) (fun b o hb e => eb b o hb e) f0 f1 f3 f4 f5⟩
  self := fun A i s Q E st h => wpAny_pyIter_rangeiter st h
/-- range(i, j, c): small bounds, n items -/
def RgC (i j c : Int) (n : Nat) : Prop := c ≠ 0 ∧ c.natAbs < 1073741824 ∧ Builtin.Range.small i j c = true ∧ Builtin.Range.rangeSize i j c = n
theorem RgC.neg {i j : Int} (ha : -(2 ^ 62) ≤ i) (ha' : i < 2 ^ 62) (hb : -(2 ^ 62) ≤ j) (hb' : j < 2 ^ 62) : RgC i j (-1) (i - j).toNat :=
  ⟨by decide, by decide, PySem.W.small_down ha ha' hb hb', PySem.W.rangeSize_downNat i j⟩
def iRng3 (ta : TA) : TI := fun σ H R => ta σ H fun vs H1 => ∃ (i j c : Int) (n : Nat), vs = [.int i, .int j, .int c] ∧ RgC i j c n ∧ R (Itc i c n) H1
section
variable {X : Cx} {tg : Expr}
theorem pi_range3 {a b c : Expr} {ta : TA} {p pos : Pos} (hg : Gl X "range") (hm : X.mg "range" = none) (ha : PA X [a, b, c] ta)
    (hs : starEach [a, b, c] X.env = (false, eval a X.env) :: starEach [b, c] X.env := by rfl) (hpl : (backTo pos (starEach [b, c] X.env)).any (·.1) = false := by rfl) :
    PI X tg (.Call (.Name "range" p) [a, b, c] [] pos) (iRng3 ta) := by
  intro pins s σ H R I h
  refine Call_ (ld_blt I hg hm boot_range (PyProof.Rows.callWith_type1 (thn (ha pos pins s σ H _ I h) fun us s1 ⟨vs, H1, I1, r1, q1⟩ => ?_) hs hpl))
  obtain ⟨i, j, k, n, e, ⟨c0, c1, c2, c3⟩, q⟩ := q1
  subst e
  cases r1 with
  | cons r rr =>
    cases rr with
    | cons r' rr =>
      cases rr with
      | cons r'' rr =>
        cases rr
        obtain ⟨t, rfl⟩ := r
        obtain ⟨t', rfl⟩ := r'
        obtain ⟨t'', rfl⟩ := r''
        refine call_range_3 c0 ?_ (.inl (PyProof.noPylong_small c1))
        refine wpAny_pyIter_range (IsRange.new ..) c2 ?_
        have I2 : Inv X pins σ H1 { s1 with heap := s1.heap.push { cls := .type "range", data := .fields #[.int i t, .int j t', .int k t''] } } := I1.kept (t' := s1.toks) fun b o e => Heap.get?_push_of_some _ e
        refine pi_one (tk := s1.toks) I2 _ (turn_rangeC _ i k n) ?_ q
        have e1 : i + ((0 : Nat) : Int) * k = i := by simp
        have e2 : (n : Int) - ((0 : Nat) : Int) = Builtin.Range.rangeSize i j k := by rw [c3]; simp
        show IsRangeIter _ _ (i + ((0 : Nat) : Int) * k) ((n : Int) - ((0 : Nat) : Int)) k
        rw [e1, e2]
        exact Heap.get?_push_size _ rfl
end
/-- the turns of a step range, for the for loop -/
theorem for_rangeC {lo c : Int} {n : Nat} {g : TG} {tb : TS} {D : Ends} {σ : St} {H : Hp} (Pv : Nat → St → Hp → Prop) (h0 : Pv 0 σ H)
    (hs : ∀ i σ H, i < n → Pv i σ H → g (.int (lo + (i : Nat) * c)) σ H fun σ2 H2 => tb { D with nx := Pv (i + 1), ct := Pv (i + 1), bk := D.nx } σ2 H2) (hd : ∀ σ H, Pv n σ H → D.nx σ H) :
    ∃ W : Nat → Nat → St → Hp → Prop, (∃ m, W 0 m σ H) ∧ ∀ i m σ H, W i m σ H →
      ((Itc lo c n).stop i H ∧ D.nx σ H) ∨ ((Itc lo c n).go i H ∧ ∃ N : St → Hp → Prop, (∀ σ' H', N σ' H' → ∃ m', m' < m ∧ W (i + 1) m' σ' H') ∧ ∀ x H', (Itc lo c n).yld i H x H' → g x σ H' fun σ2 H2 => tb { D with nx := N, ct := N, bk := D.nx } σ2 H2) := by
  refine ⟨fun i m σ H => m = n - i ∧ i ≤ n ∧ Pv i σ H, ⟨n, by simp, Nat.zero_le _, h0⟩, ?_⟩
  rintro i m σ H ⟨rfl, hi, p⟩
  by_cases hlt : i < n
  · refine .inr ⟨hlt, Pv (i + 1), fun σ' H' p' => ⟨n - (i + 1), by omega, rfl, hlt, p'⟩, fun x H' y => ?_⟩
    obtain ⟨e, y⟩ := y
    subst e y
    exact hs i σ _ hlt p
  · have e : i = n := by omega
    subst e
    exact .inl ⟨Nat.le_refl _, hd σ H p⟩

/-! ### reversed(list) -/
section
variable {X : Cx} {tg : Expr}
end

/-! ### a str -/

/-! ### a dict's keys: any dict's entries -/
section
variable {prog : Program} {w : World} {A : Around} {E : Value → Shared → Prop} {s : Shared}
end

/-! ### a locked dict -/
section
variable {X : Cx} {pins : List (Addr × Obj)} {σ : St} {H : Hp} {s : Shared} {d : Addr} {o : Obj}
end

section
variable {P : Program} {w : World} {K : PySem.W.Frag} {tg : Expr} {d : Addr} {o : Obj} {es : Array DictEntry} {ep : Nat}
end

/-! ### for k in d, d.keys(), d.values(), d.items() -/
section
variable {X : Cx} {tg e : Expr} {td : TE} {apos cpos : Pos}
end

/-! ### enumerate(list) -/
/-- the list at a as it stands at each turn, each item in a new pair -/
def Ite (K : PySem.W.Frag) (a : Addr) : It :=
  ⟨fun i H => ∃ (xs : List V) (x : V), SqL K H a xs ∧ xs[i]? = some x, fun i H v H' => ∃ T x, v = .ref T ∧ H T = none ∧ H' = upd H T (.tup [.int (i : Nat), x]) ∧ ∀ xs, SqL K H a xs → xs[i]? = some x, fun i H => ∃ xs : List V, SqL K H a xs ∧ xs.length ≤ i⟩
theorem turn_enum {P : Program} {w : World} {K : PySem.W.Frag} {elts : List Expr} {kk : Nat} {tpos : Pos} (a e it : Addr) :
    Turn P w K (.Tuple elts kk tpos) (Ite K a) [e, it] e (fun i h => (∃ old, IsEnum h e it ((i : Nat) : Int) old) ∧ h.IsListIter it a i ∧ e ≠ it) where
  mem := by simp
  obj := fun i h st b hb => by
    obtain ⟨⟨old, he⟩, ⟨o, ho, hc, hd⟩, _⟩ := st
    have e' : b = e ∨ b = it := by simpa using hb
    rcases e' with z | z
    · rw [z]; exact ⟨_, he, fun v q => nomatch q⟩
    · rw [z]; exact ⟨o, ho, fun v q => by rw [hd] at q; cases q⟩
  keep := fun i h h' st k => let ⟨⟨old, he⟩, hi, hne⟩ := st; ⟨⟨old, k e (by simp) _ he⟩, hi.at fun o q => k it (by simp) o q, hne⟩
  item := by
    intro X hP hw hK hc i pins s σ H E I hf st hg
    subst hP hw hK
    obtain ⟨⟨old, he⟩, hit, hne⟩ := st
    obtain ⟨xs, x, hq, hx⟩ := hg
    obtain ⟨its, rv, p, hz⟩ := I.list hq
    obtain ⟨u, hu, ru⟩ := rv.get hx
    have hel : e < s.heap.objs.size := Heap.lt_size he
    have hil : it < s.heap.objs.size := by obtain ⟨_, q, _⟩ := hit; exact Heap.lt_size q
    refine wpAny_pyNext_enum_item he hit p.isList (x := u) (by simpa using hu) hne fun h' ho hit' hT hsz hk => ?_
    refine ⟨_, rfl, wpAny_letOwnedTupleGo_enum (s := { s with heap := h', toks := s.toks + 1 }) ho fun h'' he' sb => ?_⟩
    have hT2 : h''.get? s.heap.objs.size = some { cls := .type "tuple", data := .seq #[.int i s.toks, u] } := (sb.2 _ (Nat.ne_of_gt hel)).trans hT
    have new : ObjOk X.prog X.w (upd H s.heap.objs.size (.tup [.int (i : Nat), x])) h'' s.heap.objs.size (.tup [.int (i : Nat), x]) :=
      ⟨by show 2 ≤ sizeLine; decide, [.int i s.toks, u], .cons ⟨_, rfl⟩ (.cons ru .nil), ⟨_, hT2, rfl, _, rfl⟩⟩
    have I1 : Inv X pins σ (upd H s.heap.objs.size (.tup [.int (i : Nat), x])) { s with heap := h'', toks := s.toks + 1 } :=
      I.turnedNew (ch := [e, it]) (fun b ob hb q => (sb.2 b (fun z => hb (by simp [z]))).trans (hk b ob (fun z => hb (by simp [z])) (fun z => hb (by simp [z])) q)) hf (Nat.le_refl _) new
    refine ⟨.ref s.heap.objs.size, _, I1, rfl, ⟨_, x, rfl, I.hok.fresh (Nat.le_refl _), rfl, fun ys hy => by rw [I.list_inj hy hq]; exact hx⟩, ⟨⟨u, ?_⟩, hit'.at fun o q => (sb.2 it (Ne.symm hne)).trans q, hne⟩, fun b hb => ?_⟩
    · have e1 : ((i + 1 : Nat) : Int) = (i : Int) + 1 := by omega
      rw [e1]; exact he'
    · have hb' : b < s.heap.objs.size := by
        have e' : b = e ∨ b = it := by simpa using hb
        rcases e' with z | z
        · rw [z]; exact hel
        · rw [z]; exact hil
      rw [upd_ne (Nat.ne_of_lt hb')]
      exact (hf b hb).1
  done := by
    intro X hP hw hK hc i pins s σ H E I hf st hg
    subst hP hw hK
    obtain ⟨⟨old, he⟩, hit, hne⟩ := st
    obtain ⟨xs, hq, hx⟩ := hg
    obtain ⟨its, rv, p, hz⟩ := I.list hq
    obtain ⟨f0, f1, f2, f3, f4, f5⟩ := hf it (by simp)
    have hl := rv.length
    exact wpAny_pyNext_enum_end (I.ok.hd hc) he hit p.isList (by simp; omega) fun h' eb => ⟨rfl, I.turned (t' := s.toks) (fun b o hb q => eb b o hb q) f0 f1 f3 f4 f5⟩
  self := fun A i s Q E st h => let ⟨⟨_, he⟩, _⟩ := st; wpAny_pyIter_enum he h
def iEnum (K : PySem.W.Frag) (ta : TA) : TI := fun σ H R => ta σ H fun vs H1 => ∃ a xs, vs = [.ref a] ∧ SqL K H1 a xs ∧ R (Ite K a) H1
theorem pi_enum {X : Cx} {e : Expr} {ta : TA} {p pos tpos : Pos} {elts : List Expr} {kk : Nat} (hg : Gl X "enumerate") (hm : X.mg "enumerate" = none) (ha : PA X [e] ta) (hs : starEach [e] X.env = [(false, eval e X.env)] := by rfl) :
    PI X (.Tuple elts kk tpos) (.Call (.Name "enumerate" p) [e] [] pos) (iEnum X.K ta) := by
  intro pins s σ H R I h
  refine Call_ (ld_blt I hg hm boot_enumerate (PyProof.Rows.callWith_type1 (thn (ha pos pins s σ H _ I h) fun us s1 ⟨vs, H1, I1, r1, q1⟩ => ?_) hs rfl))
  obtain ⟨a, xs, ex, hq, q⟩ := q1
  subst ex
  cases r1 with
  | cons r rr =>
    cases rr
    cases r
    obtain ⟨its, rv, p', hz⟩ := I1.list hq
    refine call_enumerate_list p'.isList fun h' he hit hsz hk => wpAny_pyIter_enum he ?_
    have I2 : Inv X pins σ H1 { s1 with heap := h' } := I1.kept (t' := s1.toks) hk
    refine ⟨s1.heap.objs.size + 1, [s1.heap.objs.size + 1, s1.heap.objs.size], _, _, H1, rfl, I2, turn_enum a (s1.heap.objs.size + 1) s1.heap.objs.size, ⟨⟨.none, he⟩, hit, Nat.succ_ne_self _⟩, fun b hb => ?_, q⟩
    have e' : b = s1.heap.objs.size + 1 ∨ b = s1.heap.objs.size := by simpa using hb
    have hle : s1.heap.objs.size ≤ b := by
      rcases e' with z | z
      · rw [z]; exact Nat.le_add_right _ _
      · rw [z]; exact Nat.le_refl _
    exact I1.fpOk hle (I1.hok.fresh hle)
/-! ### zip(list, list) -/
end L2

section 
namespace Bits
open PySem PyProof.Rows








end Bits
end 

section 
namespace TL
open PySem PySem.Builtin PySem.Builtin.Str PySem.StrLaws


/-! ### the list functions -/




/-! ### the model's split and partition are these -/




/-! ### computing spl and par -/


/-! ### digits -/

/-! ### words: x.split() -/
end TL
end 

namespace L2
open PySem PySem.Spec PyProof.Rows




section
variable {X : Cx} {pins : List (Addr × Obj)} {σ : St} {H : Hp} {s : Shared} {Q : VK}
end

section
variable {X : Cx}





/-! ### of a text alone -/

/-! ### of a text and a text -/

end

section
variable {X : Cx} {o e : Expr} {to te : TE}

end
end L2

namespace L2
open PySem PySem.Spec PyProof.Rows

section
variable {X : Cx}
end

/-! ### slices of a text -/


end L2

namespace Att
open PySem PySem.W PySem.Calls PyProof.Rows

/-! ### the script -/



/-! ### the attachment: holds_open's last premise (the goal 'hc' behind k_head) from a wpAny of the law's body -/



/-! ### rules over ANY heap (no ledger) from facts about the written part K: the library's own take a ledger (News) for what they write -/
section
variable {prog : Program} {w : World} {A : Around} {E : Value → Shared → Prop} {s : Shared} {K : Frag}





/-! the whole heap as the ledger: makes every rule that writes through a ledger a rule over any heap -/

end
end Att

namespace L2
open PySem PySem.Spec PyProof.Rows



end L2

namespace L2
open PySem PySem.Spec PyProof.Rows


end L2

/- THE LAST THEOREM (shape; LID, My.* are yours):
   My.Adr: a structure of the addresses that your layer names (classes, functions); My.Txt K t: a structure (Prop) of the equations over K;
   My.txt_mk : {K} {implicit addresses ..} (e1 : nsIn K mainGlobals "law" = some (some (.ref f))) (e2 : K.lookup f = some ⟨oc, od, .func (fnOf "law" "law" params body scope dV kV doc pm an cdv ct), sl⟩) (e3 : codeIn K cdv "law" = true) .. : ∃ t, My.Txt K t

set_option maxRecDepth 100000 in
set_option maxHeartbeats 0 in
theorem PySem.Challenge.cw_LID_holds : PySem.Challenge.rw_LID.Holds := by
  w_on; o_law; k_head; (case hw => w_witness2)
  k_fill
  refine L2.walk_of (l := PySem.Challenge.rw_LID) (n := 63) (k := 40) (x := "script") (CX := fun w => ..) (sp := fun _ => My.sp_law) rfl (by decide) rfl ⟨rfl, by decide, by decide⟩ (fun w h Y => PySem.W.kIn_of Y) ?F ?S ?C
  case F =>
    intro w mg fa h KX G hmg
    have T : ∃ t, My.Txt (L2.KOf KX) t := by
      dsimp only [L2.KOf]                          -- K must stand as «<heap const> w.params» for k_is
      refine' My.txt_mk ?e1 ?e2 ?e3 ..
      (case e1 => PySem.W.k_is)                    -- in the order: a name -> its address -> its object -> its parts
      (case e2 => PySem.W.k_is)
      ..
    obtain ⟨t, T⟩ := T
    have e0 := hmg.symm.trans (PySem.W.mg_of KX G T.law)
    cases e0                                       -- fa is the law's own address
    exact ⟨_, fun s u => .of_eq rfl, fun base kb nb => My.law_fn T kb nb⟩     -- if «.of_eq rfl» comes too early: refine' ⟨_, ?b, fun base kb nb => My.law_fn T kb nb⟩; exact fun s u => .of_eq rfl
  case S => exact fun w H a ns hl hO hS => ..
  case C => exact ..
(the tactic k_is has no namespace: write k_is) -/

/-! SHORT WORDS over the layer: a def of the text, its body, what a loop and a test want. -/
namespace L2
open PySem PySem.Spec PyProof.Rows

/-! ### the text by places -/
/-- the j-th statement of a class's body -/
def inClass (s : Stmt) (j : Nat) : Stmt := match s with
  | .ClassDef _ _ _ body _ _ _ _ _ _ _ => body.getD j (.Pass ⟨0, 0, 0, 0⟩)
  | _ => .Pass ⟨0, 0, 0, 0⟩
def defArgs (s : Stmt) : Arguments := match s with
  | .FunctionDef _ a _ _ _ _ _ _ _ _ => a
  | _ => { posonlyargs := [], args := [], vararg := none, kwonlyargs := [], kw_defaults := [], kwarg := none, defaults := [] }
def defBody (s : Stmt) : List Stmt := match s with
  | .FunctionDef _ _ b _ _ _ _ _ _ _ => b
  | _ => []
def defScope (s : Stmt) : Scope := match s with
  | .FunctionDef _ _ _ _ _ _ sc _ _ _ => sc
  | _ => { kind := .function, names := [], isGenerator := false, isCoroutine := false }

/-! ### no exception leaves a def -/
abbrev CX0 : CXT := fun _ _ _ _ _ _ => False
abbrev E0 : XK := fun _ _ _ => False
theorem pass0 {X : Cx} : Passes CX0 X E0 := fun _ _ _ _ _ _ _ h => h.elim

/-! ### a def (or method) of the text as it stands behind the top -/
structure Fun (K : PySem.W.Frag) (x qual : Str) (st : Stmt) (f : Addr) (fd : FuncData) : Prop where
  ex : ∃ (oc : Value) (od : Option Addr) (kV doc pm : Value) (an : Option Addr) (cdv ct : Value) (osl : Array (Option Value)),
    fd = PySem.W.fnOf x qual (defArgs st) (defBody st) (defScope st) .none kV doc pm an cdv ct ∧ K.lookup f = some ⟨oc, od, .func fd, osl⟩ ∧ PySem.W.codeIn K cdv qual = true
  kp : PySem.W.keepIn K (.ref f) = true
section
variable {P : Program} {w : World} {K : PySem.W.Frag} {mg : Str → Option Value} {base : Heap}
/-- THE RULE for a def: its body as a term of rules, and the reading of that term -/
theorem Fun.ok {x qual : Str} {st : Stmt} {f : Addr} {fd : FuncData} {N ps : List Str} {k : Nat} {sp : Sp} (F : Fun K x qual st f fd) (S : FnScope N ps (defScope st)) (len : ∀ vs H Q E, sp vs H Q E → vs.length = ps.length)
    (hbody : ∀ (cdv : Value) (A : Around) (outer : List Env) (s : Shared) (H : Hp) (vs : List V) (Q : VK) (E : XK), Room k (A.deeper (envOfC qual (defScope st) s.heap.objs.size f cdv)) → sp vs H Q E →
      ∃ t, PSs (cxOf CX0 P w K mg base N qual (defScope st) f cdv A outer s H E).nox (defBody st) t ∧ t { nx := fun _ H' => Q .non H', rt := Q } (start N vs) H) : FnOk P w K mg base CX0 (k + 1) f fd ps sp := by
  obtain ⟨oc, od, kV, doc, pm, an, cdv, ct, osl, rfl, lk, hcd⟩ := F.ex
  refine fn_of lk hcd S len fun A outer s H vs Q E hr hsp => ?_
  obtain ⟨t, h, q⟩ := hbody cdv A outer s H vs Q E hr hsp
  exact ⟨t, h.nox, q⟩
/-- how its arguments bind (no defaults): h is «fun _ _ _ _ _ _ us hl => match us, hl with | [_, _], _ => rfl», one _ a parameter -/
theorem Fun.binds {x qual : Str} {st : Stmt} {f : Addr} {fd : FuncData} {ps : List Str} (F : Fun K x qual st f fd)
    (h : ∀ (kV doc pm : Value) (an : Option Addr) (cdv ct : Value) (us : List Value), us.length = ps.length → bindArgs (PySem.W.fnOf x qual (defArgs st) (defBody st) (defScope st) .none kV doc pm an cdv ct) ⟨us, []⟩ = pure (ps.zip us)) : Binds K fd ps [] := by
  obtain ⟨oc, od, kV, doc, pm, an, cdv, ct, osl, rfl, lk, hcd⟩ := F.ex
  exact .all (h kV doc pm an cdv ct)
theorem fun_mk {x qual : Str} {st : Stmt} {f : Addr} {oc : Value} {od an : Option Addr} {osl : Array (Option Value)} {kV doc pm cdv ct : Value} (l : K.lookup f = some ⟨oc, od, .func (PySem.W.fnOf x qual (defArgs st) (defBody st) (defScope st) .none kV doc pm an cdv ct), osl⟩)
    (c : PySem.W.codeIn K cdv qual = true) (k : PySem.W.keepIn K (.ref f) = true) : Fun K x qual st f (PySem.W.fnOf x qual (defArgs st) (defBody st) (defScope st) .none kV doc pm an cdv ct) := ⟨⟨oc, od, kV, doc, pm, an, cdv, ct, osl, rfl, l, c⟩, k⟩
end
theorem small1000 {n : Nat} (h : n ≤ 1000) : n < sizeLine := Nat.lt_of_le_of_lt h (by decide)

/-! ### expressions in short: the name that stands in the i-th slot -/
section
variable {X : Cx}
theorem pv (i : Nat) {x : Str} {pos : Pos} (hN : X.N[i]? = some x := by rfl) (hv : Vis X.env.scope x := by first | exact Or.inl rfl | exact Or.inr (Or.inl rfl) | exact Or.inr (Or.inr rfl)) (hd : (x == ("__debug__" : Str)) = false := by decide)
    (hcd : (x == ("__classdict__" : Str)) = false := by decide) : PE X (.Name x pos) (tVar i) := pe_var hN hv hd hcd
end

/-! ### tests -/
theorem iteF {A B : Prop} (h : B) : if false = true then A else B := by
  rw [if_neg Bool.false_ne_true]
  exact h
theorem iteT {A B : Prop} (h : A) : if true = true then A else B := by
  rw [if_pos rfl]
  exact h
theorem ite2 {c A B : Prop} [Decidable c] (h1 : c → A) (h2 : ¬ c → B) : if c then A else B := by
  by_cases h : c
  · rw [if_pos h]
    exact h1 h
  · rw [if_neg h]
    exact h2 h

/-! ### heaps -/
/-- all that was tracked is as it was -/
def Same (H H' : Hp) : Prop := ∀ b o, H b = some o → H' b = some o
theorem Same.refl (H : Hp) : Same H H := fun _ _ h => h
theorem Same.trans {H H1 H2 : Hp} (a : Same H H1) (b : Same H1 H2) : Same H H2 := fun c o h => b c o (a c o h)
theorem Same.free {H H' : Hp} (e : Same H H') {l : Addr} (h : H' l = Option.none) : H l = Option.none := by
  cases q : H l with
  | none => rfl
  | some o =>
    rw [e l o q] at h
    cases h
theorem Same.seq {K : PySem.W.Frag} {H H' : Hp} {a : Addr} {xs : List V} (e : Same H H') (h : SqL K H a xs) : SqL K H' a xs := by
  rcases h with (h | ⟨o, h⟩) | h
  · exact .inl (.inl (e _ _ h))
  · exact .inl (.inr ⟨o, e _ _ h⟩)
  · exact .inr h

/-! ### a dict's pairs: keys that differ -/
section
variable {κ : Type} [DecidableEq κ]
end
/-! ### lists -/
theorem at_of {xs : List V} {z : Int} {j : Nat} {v : V} (e : z = (j : Int)) (h : xs[j]? = some v) : atI xs z = some v := by
  rw [e]
  exact atI_nat h
/-- a new instance and its __init__ leave all that was tracked as it was -/
theorem Same.made {H H1 : Hp} {x dx C : Addr} (nx : H x = Option.none) (nd : H dx = Option.none) (k : ∀ b o, (upd (upd H dx (.own x)) x (.ins C dx [])) b = some o → b ≠ x → H1 b = some o) : Same H H1 := fun b o e =>
  k b o (by rw [upd_ne (ne_of_none e nx), upd_ne (ne_of_none e nd)]; exact e) (ne_of_none e nx)
end L2

section
set_option Elab.async false
set_option linter.all false
set_option maxRecDepth 100000
set_option maxHeartbeats 2000000
namespace L2
open PySem PySem.Spec PyProof.Rows
open PySem.W (WData Codec OpenSpec Well WellAll ReadsW ReadsAllW)
/-! ### an answer as data -/
mutual
/-- x stands for the datum d, lists and tuples all the way -/
inductive Dw (K : PySem.W.Frag) (H : Hp) : V → WData → Prop
  | non : Dw K H .non .none
  | bl (b : Bool) : Dw K H (.bl b) (.bool b)
  | int (i : Int) : Dw K H (.int i) (.int i)
  | str (x : Str) : Dw K H (.str x) (.str x)
  | byt (b : Array UInt8) : Dw K H (.byt b) (.bytes b.toList)
  | lst {a : Addr} {xs : List V} {ds : List WData} : SqL K H a xs → DwAll K H xs ds → Dw K H (.ref a) (.list ds)
  | tup {a : Addr} {xs : List V} {ds : List WData} : SqT K H a xs → DwAll K H xs ds → Dw K H (.ref a) (.tuple ds)
inductive DwAll (K : PySem.W.Frag) (H : Hp) : List V → List WData → Prop
  | nil : DwAll K H [] []
  | cons {v : V} {vs : List V} {d : WData} {ds : List WData} : Dw K H v d → DwAll K H vs ds → DwAll K H (v :: vs) (d :: ds)
end
theorem dw_ints {K : PySem.W.Frag} {H : Hp} : ∀ ns : List Int, DwAll K H (ns.map V.int) (ns.map WData.int)
  | [] => .nil
  | n :: r => .cons (.int n) (dw_ints r)
theorem ints_dw {K : PySem.W.Frag} {H : Hp} : ∀ (ns : List Int) (xs : List V), DwAll K H xs (ns.map WData.int) → xs = ns.map V.int
  | [], xs, h => by
    cases h
    rfl
  | n :: r, xs, h => by
    cases h with
    | cons h1 h2 =>
      cases h1
      rw [ints_dw r _ h2] <;> rfl
section
variable {P : Program} {w : World} {K : PySem.W.Frag} {H : Hp} {h : Heap} {R : PySem.W.WRecords} {cl : Str → Option Addr}
theorem sqL_at {a : Addr} {xs : List V} (hok : HOk P w H h) (KX : K.In h) (q : SqL K H a xs) : ∃ (its : List Value) (o : Obj) (n : Nat), Vals xs its ∧ h.get? a = some o ∧ o.cls = .type "list" ∧ o.data = .seq its.toArray n := by
  rcases q with q | ⟨o, its, n, e, hc, _, hd, _, hv⟩
  · obtain ⟨_, its, n, hv, e⟩ := (show ObjOk P w H h a (.lst xs) from q.ok hok)
    exact ⟨its, _, n, hv, e, rfl, rfl⟩
  · exact ⟨its.toList, o, n, hv, KX _ _ e, hc, by simp [hd]⟩
theorem sqT_at {a : Addr} {xs : List V} (hok : HOk P w H h) (KX : K.In h) (q : SqT K H a xs) : ∃ (its : List Value) (o : Obj) (n : Nat), Vals xs its ∧ h.get? a = some o ∧ o.cls = .type "tuple" ∧ o.data = .seq its.toArray n := by
  rcases q with q | ⟨o, its, n, e, hc, hd, _, hv⟩
  · obtain ⟨_, its, hv, o, e, hc, n, hd⟩ := (show ObjOk P w H h a (.tup xs) from q.ok hok)
    exact ⟨its, o, n, hv, e, hc, hd⟩
  · exact ⟨its.toList, o, n, hv, KX _ _ e, hc, by simp [hd]⟩
mutual
theorem Dw.reads (hok : HOk P w H h) (KX : K.In h) : ∀ (d : WData) (v : V) (u : Value), Dw K H v d → RelV v u → ∃ as, ReadsW R cl h u d as
  | .none, _, _, x, r => by
    cases x
    cases r
    exact ⟨_, ReadsW.none⟩
  | .bool b, _, _, x, r => by
    cases x
    cases r
    exact ⟨_, ReadsW.bool b⟩
  | .int i, _, _, x, r => by
    cases x
    obtain ⟨t, rfl⟩ := r
    exact ⟨_, ReadsW.int i t⟩
  | .str s, _, _, x, r => by
    cases x
    obtain ⟨t, rfl⟩ := r
    exact ⟨_, ReadsW.str s t⟩
  | .bytes b, _, _, x, r => by
    cases x
    obtain ⟨t, rfl⟩ := r
    exact ⟨_, ReadsW.bytes _ t⟩
  | .list ds, _, _, x, r => by
    cases x with
    | lst hs ha =>
      cases r
      obtain ⟨its, o, n, rv, ho, hc, hd⟩ := sqL_at hok KX hs
      obtain ⟨as, hr⟩ := Dw.readsAll hok KX ds _ its ha rv
      exact ⟨_, ReadsW.list ho hc hd hr⟩
  | .tuple ds, _, _, x, r => by
    cases x with
    | tup hs ha =>
      cases r
      obtain ⟨its, o, n, rv, ho, hc, hd⟩ := sqT_at hok KX hs
      obtain ⟨as, hr⟩ := Dw.readsAll hok KX ds _ its ha rv
      exact ⟨_, ReadsW.tuple ho hc hd hr⟩
  | .float _, _, _, x, _ => by cases x
  | .dict _, _, _, x, _ => by cases x
  | .bytearray _, _, _, x, _ => by cases x
  | .set _, _, _, x, _ => by cases x
  | .frozenset _, _, _, x, _ => by cases x
  | .obj _ _, _, _, x, _ => by cases x
theorem Dw.readsAll (hok : HOk P w H h) (KX : K.In h) : ∀ (ds : List WData) (vs : List V) (us : List Value), DwAll K H vs ds → Vals vs us → ∃ as, ReadsAllW R cl h us ds as
  | [], _, _, x, r => by
    cases x
    cases r
    exact ⟨_, ReadsAllW.nil⟩
  | d :: ds, _, _, x, r => by
    cases x with
    | cons h1 h2 =>
      cases r with
      | cons r1 r2 =>
        obtain ⟨as, q1⟩ := Dw.reads hok KX d _ _ h1 r1
        obtain ⟨bs, q2⟩ := Dw.readsAll hok KX ds _ _ h2 r2
        exact ⟨_, ReadsAllW.cons q1 q2⟩
end
end
/-! ### the arguments -/
mutual
/-- data that a codec tells -/
def plW : WData → Bool
  | .none => true
  | .bool _ => true
  | .int _ => true
  | .str _ => true
  | .bytes _ => true
  | .list xs => plWs xs
  | .tuple xs => plWs xs
  | _ => false
def plWs : List WData → Bool
  | [] => true
  | x :: r => plW x && plWs r
end
theorem plWs_map {α : Type} {f : α → WData} (h : ∀ a, plW (f a) = true) : ∀ l : List α, plWs (l.map f) = true
  | [] => rfl
  | x :: r => by
    show (plW (f x) && plWs (r.map f)) = true
    rw [h x, plWs_map h r] <;> rfl
theorem pl_enc : ∀ (c : Codec) (a : c.denote), plW (c.enc a) = true
  | .unit, _ => rfl
  | .bool, _ => rfl
  | .int _ _, _ => rfl
  | .nat _ _, _ => rfl
  | .u8, _ => rfl
  | .bytes _ _, _ => rfl
  | .text _ _ _ _, _ => rfl
  | .list _ _ c, a => plWs_map (fun x => pl_enc c x) a
  | .pair c d, a => by
    show (plW (c.enc a.1) && (plW (d.enc a.2) && true)) = true
    rw [pl_enc c a.1, pl_enc d a.2] <;> rfl
  | .triple c d e, a => by
    show (plW (c.enc a.1) && (plW (d.enc a.2.1) && (plW (e.enc a.2.2) && true))) = true
    rw [pl_enc c a.1, pl_enc d a.2.1, pl_enc e a.2.2] <;> rfl
  | .option c, none => rfl
  | .option c, some x => pl_enc c x
theorem pl_encAll : ∀ (cs : List Codec) (a : Codec.denoteAll cs), plWs (Codec.encAll cs a) = true
  | [], _ => rfl
  | c :: cs, a => by
    show (plW (c.enc a.1) && plWs (Codec.encAll cs a.2)) = true
    rw [pl_enc c a.1, pl_encAll cs a.2] <;> rfl
theorem weight_mem : ∀ {xs : List WData} {d : WData}, d ∈ xs → d.weight ≤ WData.weightAll xs
  | [], d, h => absurd h (by simp)
  | x :: r, d, h => by
    show d.weight ≤ x.weight + 1 + WData.weightAll r
    rcases List.mem_cons.mp h with e | m
    · rw [e]
      omega
    · have z := weight_mem m
      omega
def toV : Value → V
  | .none => .non
  | .bool b => .bl b
  | .int i _ => .int i
  | .str x _ => .str x
  | .bytes b _ => .byt b
  | .ref a => .ref a
  | _ => .non
/-- a value of the arguments, its objects among A -/
def OkU (A : List Addr) : Value → Prop
  | .none => True
  | .bool _ => True
  | .int _ _ => True
  | .str _ _ => True
  | .bytes _ _ => True
  | .ref a => a ∈ A
  | _ => False
theorem OkU.mono {A B : List Addr} (h : ∀ a ∈ A, a ∈ B) : ∀ {u : Value}, OkU A u → OkU B u := fun {u} x => by
  cases u with
  | ref a => exact h a x
  | none => trivial
  | bool b => trivial
  | int i t => trivial
  | str s t => trivial
  | bytes b t => trivial
  | _ => exact False.elim x
theorem relV_toV {A : List Addr} {u : Value} (x : OkU A u) : RelV (toV u) u := by
  cases u with
  | ref a => rfl
  | none => rfl
  | bool b => rfl
  | int i t => exact ⟨t, rfl⟩
  | str s t => exact ⟨t, rfl⟩
  | bytes b t => exact ⟨t, rfl⟩
  | _ => exact False.elim x
theorem vals_toV {A : List Addr} : ∀ {vs : List Value}, (∀ u ∈ vs, OkU A u) → Vals (vs.map toV) vs
  | [], _ => .nil
  | u :: r, h => .cons (relV_toV (h u (List.mem_cons_self ..))) (vals_toV fun x hx => h x (List.mem_cons_of_mem _ hx))
/-- an object of the arguments -/
def ArgOb (h : Heap) (A : List Addr) (a : Addr) : Prop := ∃ vs : List Value, vs.length ≤ sizeLine ∧ (∀ u ∈ vs, OkU A u) ∧
  (h.get? a = some { cls := .type "list", data := .seq vs.toArray } ∨ h.get? a = some { cls := .type "tuple", data := .seq vs.toArray })
theorem ArgOb.mono {h : Heap} {A B : List Addr} {a : Addr} (k : ∀ a ∈ A, a ∈ B) (x : ArgOb h A a) : ArgOb h B a := by
  obtain ⟨vs, h1, h2, h3⟩ := x
  exact ⟨vs, h1, fun u hu => (h2 u hu).mono k, h3⟩
theorem wellAll_len {P : Params} {h : Heap} : ∀ {vs : List Value} {ds : List WData}, WellAll P h vs ds → vs.length = ds.length
  | _, _, .nil => rfl
  | _, _, .cons _ b => by
    show _ + 1 = _ + 1
    rw [wellAll_len b]
theorem well_list {P : Params} {h : Heap} {v : Value} {ds : List WData} (x : Well P h v (.list ds)) : ∃ (a : Addr) (vs : List Value), v = .ref a ∧ h.get? a = some { cls := .type "list", data := .seq vs.toArray } ∧ WellAll P h vs ds := by
  cases x with
  | list ho hall => exact ⟨_, _, rfl, ho, hall⟩
theorem well_tuple {P : Params} {h : Heap} {v : Value} {ds : List WData} (x : Well P h v (.tuple ds)) : ∃ (a : Addr) (vs : List Value), v = .ref a ∧ h.get? a = some { cls := .type "tuple", data := .seq vs.toArray } ∧ WellAll P h vs ds := by
  cases x with
  | tuple ho hall => exact ⟨_, _, rfl, ho, hall⟩
theorem well_cons {P : Params} {h : Heap} {us : List Value} {d : WData} {ds : List WData} (x : WellAll P h us (d :: ds)) : ∃ (v : Value) (vs : List Value), us = v :: vs ∧ Well P h v d ∧ WellAll P h vs ds := by
  cases x with
  | cons a b => exact ⟨_, _, rfl, a, b⟩
theorem line_of {n : Nat} (h : n ≤ 1048576) : n ≤ sizeLine := Nat.le_trans h (by decide)
section
variable {P : Params} {h : Heap}
mutual
theorem area_one : ∀ (d : WData) (v : Value), Well P h v d → plW d = true → d.weight ≤ 1048576 → ∃ A : List Addr, OkU A v ∧ ∀ a ∈ A, ArgOb h A a
  | .none, _, x, _, _ => by
    cases x
    exact ⟨[], trivial, fun a m => absurd m (by simp)⟩
  | .bool b, _, x, _, _ => by
    cases x
    exact ⟨[], trivial, fun a m => absurd m (by simp)⟩
  | .int i, _, x, _, _ => by
    cases x
    exact ⟨[], trivial, fun a m => absurd m (by simp)⟩
  | .str s, _, x, _, _ => by
    cases x
    exact ⟨[], trivial, fun a m => absurd m (by simp)⟩
  | .bytes b, _, x, _, _ => by
    cases x
    exact ⟨[], trivial, fun a m => absurd m (by simp)⟩
  | .list ds, _, x, p, z => by
    obtain ⟨a, vs, rfl, ho, hall⟩ := well_list x
    have z2 : WData.weightAll ds ≤ 1048576 := z
    obtain ⟨A, h1, h2⟩ := area_all ds _ hall p fun d hd => Nat.le_trans (weight_mem hd) z2
    have k : ∀ b ∈ A, b ∈ a :: A := fun b hb => List.mem_cons_of_mem _ hb
    refine ⟨a :: A, List.mem_cons_self .., fun b hb => ?_⟩
    rcases List.mem_cons.mp hb with e | m
    · rw [e]
      exact ⟨vs, line_of (by rw [wellAll_len hall]; exact Nat.le_trans (PySem.W.length_le_weightAllW ds) z2), fun u hu => (h1 u hu).mono k, .inl ho⟩
    · exact (h2 b m).mono k
  | .tuple ds, _, x, p, z => by
    obtain ⟨a, vs, rfl, ho, hall⟩ := well_tuple x
    have z2 : WData.weightAll ds ≤ 1048576 := z
    obtain ⟨A, h1, h2⟩ := area_all ds _ hall p fun d hd => Nat.le_trans (weight_mem hd) z2
    have k : ∀ b ∈ A, b ∈ a :: A := fun b hb => List.mem_cons_of_mem _ hb
    refine ⟨a :: A, List.mem_cons_self .., fun b hb => ?_⟩
    rcases List.mem_cons.mp hb with e | m
    · rw [e]
      exact ⟨vs, line_of (by rw [wellAll_len hall]; exact Nat.le_trans (PySem.W.length_le_weightAllW ds) z2), fun u hu => (h1 u hu).mono k, .inr ho⟩
    · exact (h2 b m).mono k
  | .float _, _, _, p, _ => Bool.noConfusion (show false = true from p)
  | .dict _, _, _, p, _ => Bool.noConfusion (show false = true from p)
  | .bytearray _, _, _, p, _ => Bool.noConfusion (show false = true from p)
  | .set _, _, _, p, _ => Bool.noConfusion (show false = true from p)
  | .frozenset _, _, _, p, _ => Bool.noConfusion (show false = true from p)
  | .obj _ _, _, _, p, _ => Bool.noConfusion (show false = true from p)
theorem area_all : ∀ (ds : List WData) (vs : List Value), WellAll P h vs ds → plWs ds = true → (∀ d ∈ ds, d.weight ≤ 1048576) → ∃ A : List Addr, (∀ u ∈ vs, OkU A u) ∧ ∀ a ∈ A, ArgOb h A a
  | [], _, x, _, _ => by
    cases x
    exact ⟨[], fun u m => absurd m (by simp), fun a m => absurd m (by simp)⟩
  | d :: ds, _, x, p, z => by
    obtain ⟨v, vs, rfl, x1, x2⟩ := well_cons x
    have q : plW d = true ∧ plWs ds = true := Bool.and_eq_true_iff.mp p
    obtain ⟨A, a1, a2⟩ := area_one d v x1 q.1 (z d (List.mem_cons_self ..))
    obtain ⟨B, b1, b2⟩ := area_all ds vs x2 q.2 fun e he => z e (List.mem_cons_of_mem _ he)
    have kA : ∀ b ∈ A, b ∈ A ++ B := fun b hb => List.mem_append.mpr (.inl hb)
    have kB : ∀ b ∈ B, b ∈ A ++ B := fun b hb => List.mem_append.mpr (.inr hb)
    refine ⟨A ++ B, fun u hu => ?_, fun b hb => ?_⟩
    · rcases List.mem_cons.mp hu with e | m
      · rw [e]
        exact a1.mono kA
      · exact (b1 u m).mono kB
    · rcases List.mem_append.mp hb with m | m
      · exact (a2 b m).mono kA
      · exact (b2 b m).mono kB
end
end
/-- what is tracked of an argument's object -/
def hoOf (o : Obj) : Option HO := match o.data with
  | .seq vs _ => if (o.cls == Value.type "list") = true then some (.frz o (.lst (vs.toList.map toV))) else some (.frz o (.tup (vs.toList.map toV)))
  | _ => none
def argH (K : PySem.W.Frag) (h : Heap) (A : List Addr) : Hp := fun b => if b ∈ A then (if (K.lookup b).isNone = true then (h.get? b).bind hoOf else none) else none
/-- nothing is tracked but what is known to the object -/
def OnlyF (H : Hp) : Prop := ∀ b, H b = none ∨ ∃ o u, H b = some (.frz o u)
theorem hoOf_lst (vs : List Value) : hoOf { cls := .type "list", data := .seq vs.toArray } = some (.frz { cls := .type "list", data := .seq vs.toArray } (.lst (vs.map toV))) := by
  show (if (Value.type "list" == Value.type "list") = true then some (HO.frz { cls := .type "list", data := .seq vs.toArray } (.lst (vs.toArray.toList.map toV))) else some (HO.frz { cls := .type "list", data := .seq vs.toArray } (.tup (vs.toArray.toList.map toV)))) = _
  rw [if_pos (beq_self_eq_true _)]
theorem hoOf_tup (vs : List Value) : hoOf { cls := .type "tuple", data := .seq vs.toArray } = some (.frz { cls := .type "tuple", data := .seq vs.toArray } (.tup (vs.map toV))) := by
  show (if (Value.type "tuple" == Value.type "list") = true then some (HO.frz { cls := .type "tuple", data := .seq vs.toArray } (.lst (vs.toArray.toList.map toV))) else some (HO.frz { cls := .type "tuple", data := .seq vs.toArray } (.tup (vs.toArray.toList.map toV)))) = _
  rw [if_neg (by decide)]
section
variable {P : Program} {w : World} {K : PySem.W.Frag} {h : Heap} {A : List Addr}
theorem argH_at {b : Addr} {o : Obj} (hb : b ∈ A) (hk : K.lookup b = none) (e : h.get? b = some o) : argH K h A b = hoOf o := by
  unfold argH
  rw [if_pos hb, hk, if_pos (show (none : Option Obj).isNone = true from rfl), e] <;> rfl
theorem of_argH {b : Addr} {u : HO} (q : argH K h A b = some u) : b ∈ A ∧ K.lookup b = none := by
  unfold argH at q
  by_cases hb : b ∈ A
  · rw [if_pos hb] at q
    cases hk : K.lookup b with
    | none => exact ⟨hb, rfl⟩
    | some o =>
      rw [hk, if_neg (by simp)] at q
      cases q
  · rw [if_neg hb] at q
    cases q
/-- what stands tracked -/
theorem argH_is (ar : ∀ a ∈ A, ArgOb h A a) {b : Addr} {u : HO} (q : argH K h A b = some u) : K.lookup b = none ∧ ∃ vs : List Value, vs.length ≤ sizeLine ∧ (∀ u ∈ vs, OkU A u) ∧
    ((h.get? b = some { cls := .type "list", data := .seq vs.toArray } ∧ u = .frz { cls := .type "list", data := .seq vs.toArray } (.lst (vs.map toV))) ∨
     (h.get? b = some { cls := .type "tuple", data := .seq vs.toArray } ∧ u = .frz { cls := .type "tuple", data := .seq vs.toArray } (.tup (vs.map toV)))) := by
  obtain ⟨hb, hk⟩ := of_argH q
  obtain ⟨vs, h1, h2, h3⟩ := ar b hb
  refine ⟨hk, vs, h1, h2, ?_⟩
  rcases h3 with e | e
  · rw [argH_at hb hk e, hoOf_lst] at q
    exact .inl ⟨e, (Option.some.inj q).symm⟩
  · rw [argH_at hb hk e, hoOf_tup] at q
    exact .inr ⟨e, (Option.some.inj q).symm⟩
theorem argH_only (ar : ∀ a ∈ A, ArgOb h A a) : OnlyF (argH K h A) := fun b => by
  cases q : argH K h A b with
  | none => exact .inl rfl
  | some u =>
    obtain ⟨_, vs, _, _, ⟨_, e⟩ | ⟨_, e⟩⟩ := argH_is ar q
    · exact .inr ⟨_, _, by rw [e]⟩
    · exact .inr ⟨_, _, by rw [e]⟩
theorem argH_ok (ar : ∀ a ∈ A, ArgOb h A a) : HOk P w (argH K h A) h := fun b u q => by
  obtain ⟨_, vs, h1, h2, ⟨e, rfl⟩ | ⟨e, rfl⟩⟩ := argH_is ar q
  · exact ⟨e, by rw [List.length_map]; exact h1, vs, _, vals_toV h2, e⟩
  · exact ⟨e, by rw [List.length_map]; exact h1, vs, vals_toV h2, _, e, rfl, _, rfl⟩
theorem seq_inj {c c' : Value} {vs us : List Value} (e : (some { cls := c, data := .seq vs.toArray } : Option Obj) = some { cls := c', data := .seq us.toArray }) : c = c' ∧ vs = us := by
  have e1 := Option.some.inj e
  have e2 : c = c' := congrArg Obj.cls e1
  have e3 : Data.seq vs.toArray = Data.seq us.toArray := congrArg Obj.data e1
  injection e3 with e4
  refine ⟨e2, ?_⟩
  have e5 := congrArg Array.toList e4
  simpa using e5
/-- a list argument -/
theorem argL (KX : K.In h) (ar : ∀ a ∈ A, ArgOb h A a) {a : Addr} {vs : List Value} (ha : a ∈ A) (e : h.get? a = some { cls := .type "list", data := .seq vs.toArray }) : (∀ u ∈ vs, OkU A u) ∧ SqL K (argH K h A) a (vs.map toV) := by
  obtain ⟨us, h1, h2, h3⟩ := ar a ha
  have hu : us = vs := by
    rcases h3 with q | q
    · rw [e] at q
      exact (seq_inj q).2.symm
    · rw [e] at q
      exact absurd (Value.type.inj (seq_inj q).1) (by decide)
  subst hu
  refine ⟨h2, ?_⟩
  cases hk : K.lookup a with
  | none => exact .inl (.inr ⟨_, by rw [argH_at ha hk e, hoOf_lst]⟩)
  | some o =>
    have e2 := KX a o hk
    rw [e] at e2
    obtain rfl := Option.some.inj e2
    exact .inr ⟨_, us.toArray, _, hk, rfl, rfl, rfl, by rw [List.size_toArray]; exact h1, by simpa using vals_toV h2⟩
theorem argT (KX : K.In h) (ar : ∀ a ∈ A, ArgOb h A a) {a : Addr} {vs : List Value} (ha : a ∈ A) (e : h.get? a = some { cls := .type "tuple", data := .seq vs.toArray }) : (∀ u ∈ vs, OkU A u) ∧ SqT K (argH K h A) a (vs.map toV) := by
  obtain ⟨us, h1, h2, h3⟩ := ar a ha
  have hu : us = vs := by
    rcases h3 with q | q
    · rw [e] at q
      exact absurd (Value.type.inj (seq_inj q).1) (by decide)
    · rw [e] at q
      exact (seq_inj q).2.symm
  subst hu
  refine ⟨h2, ?_⟩
  cases hk : K.lookup a with
  | none => exact .inl (.inr ⟨_, by rw [argH_at ha hk e, hoOf_tup]⟩)
  | some o =>
    have e2 := KX a o hk
    rw [e] at e2
    obtain rfl := Option.some.inj e2
    exact .inr ⟨_, us.toArray, _, hk, rfl, rfl, by rw [List.size_toArray]; exact h1, by simpa using vals_toV h2⟩
mutual
theorem dw_one {Pm : Params} (KX : K.In h) (ar : ∀ a ∈ A, ArgOb h A a) : ∀ (d : WData) (v : Value), Well Pm h v d → plW d = true → OkU A v → Dw K (argH K h A) (toV v) d
  | .none, _, x, _, _ => by
    cases x
    exact .non
  | .bool b, _, x, _, _ => by
    cases x
    exact .bl b
  | .int i, _, x, _, _ => by
    cases x
    exact .int i
  | .str s, _, x, _, _ => by
    cases x
    exact .str s
  | .bytes b, _, x, _, _ => by
    cases x
    have z := Dw.byt (K := K) (H := argH K h A) b.toArray
    exact z
  | .list ds, _, x, p, hu => by
    obtain ⟨a, vs, rfl, ho, hall⟩ := well_list x
    obtain ⟨h2, hs⟩ := argL KX ar hu ho
    exact .lst hs (dw_all KX ar ds _ hall p h2)
  | .tuple ds, _, x, p, hu => by
    obtain ⟨a, vs, rfl, ho, hall⟩ := well_tuple x
    obtain ⟨h2, hs⟩ := argT KX ar hu ho
    exact .tup hs (dw_all KX ar ds _ hall p h2)
  | .float _, _, _, p, _ => Bool.noConfusion (show false = true from p)
  | .dict _, _, _, p, _ => Bool.noConfusion (show false = true from p)
  | .bytearray _, _, _, p, _ => Bool.noConfusion (show false = true from p)
  | .set _, _, _, p, _ => Bool.noConfusion (show false = true from p)
  | .frozenset _, _, _, p, _ => Bool.noConfusion (show false = true from p)
  | .obj _ _, _, _, p, _ => Bool.noConfusion (show false = true from p)
theorem dw_all {Pm : Params} (KX : K.In h) (ar : ∀ a ∈ A, ArgOb h A a) : ∀ (ds : List WData) (vs : List Value), WellAll Pm h vs ds → plWs ds = true → (∀ u ∈ vs, OkU A u) → DwAll K (argH K h A) (vs.map toV) ds
  | [], _, x, _, _ => by
    cases x
    exact .nil
  | d :: ds, _, x, p, hu => by
    obtain ⟨v, vs, rfl, x1, x2⟩ := well_cons x
    have q : plW d = true ∧ plWs ds = true := Bool.and_eq_true_iff.mp p
    exact .cons (dw_one KX ar d v x1 q.1 (hu _ (List.mem_cons_self ..))) (dw_all KX ar ds vs x2 q.2 fun u m => hu u (List.mem_cons_of_mem _ m))
end
end
/-! ### the call -/
theorem spec_call {P : Program} {w : World} {K : PySem.W.Frag} {mg mb : Str → Option Value} {CX : CXT} {k : Nat} {fa : Addr} {fd : FuncData} {ps : List Str} {sp : Sp} {s₁ : Shared} {vals : List Value} {ds : List WData} {R : PySem.W.WRecords} {cl : Str → Option Addr} {d0 : WData}
    (KX : K.In s₁.heap) (hns : s₁.heap.Ns mainGlobals mg) (hb : s₁.heap.Ns builtinsNs mb) (hbb : ∀ x : Str, x ≠ "__name__" → mb x = bootBuiltins x) (hlim : s₁.heap.NoLimit) (hg : s₁.gens = #[])
    (hwl : WellAll w.params s₁.heap vals ds) (hpl : plWs ds = true) (hwt : ∀ d ∈ ds, d.weight ≤ 1048576) (hr : Room k callerA)
    (F : ∀ base : Heap, K.In base → base.Ns mainGlobals mg → FnOk P w K mg base CX k fa fd ps sp) (hbind : ∀ (s : Shared) (us : List Value), us.length = ps.length → BindsTo s fd ⟨us, []⟩ (ps.zip us)) (hlen : ds.length = ps.length)
    (hsp : ∀ (H : Hp) (xs : List V), OnlyF H → DwAll K H xs ds → sp xs H (fun v H' => Dw K H' v d0) fun _ _ _ => False)
    (hCX : ∀ H e s', CX [] H s₁ (fun _ _ _ => False) e s' → False) :
    codeAny (model P w) callerA (.call (.ref fa) ⟨vals, []⟩) (fun r s' => ∃ u as, r = .ok (.ret u) ∧ ReadsW R cl s'.heap u d0 as ∧ OldK s₁.heap s'.heap ∧ s'.os = s₁.os ∧ AllBare s'.gens) s₁ := by
  obtain ⟨A, ho, ar⟩ := area_all ds vals hwl hpl hwt
  have hO : OnlyF (argH K s₁.heap A) := argH_only ar
  have hok : HOk P w (argH K s₁.heap A) s₁.heap := argH_ok ar
  have hS := dw_all KX ar ds vals hwl hpl ho
  have hV := vals_toV ho
  have hK : ∀ b u, argH K s₁.heap A b = some u → K.lookup b = none := fun b u q => (argH_is ar q).1
  have noA : ∀ {b : Addr} {o : Obj} {es : Array DictEntry} {ep : Nat}, s₁.heap.get? b = some o → o.data = .dict es ep → argH K s₁.heap A b = none := fun {b o es ep} e d => by
    cases q : argH K s₁.heap A b with
    | none => rfl
    | some u =>
      obtain ⟨_, vs, _, _, ⟨e2, _⟩ | ⟨e2, _⟩⟩ := argH_is ar q
      · rw [e2] at e
        cases e
        have d' : Data.seq vs.toArray _ = Data.dict es ep := d
        cases d'
      · rw [e2] at e
        cases e
        have d' : Data.seq vs.toArray _ = Data.dict es ep := d
        cases d'
  generalize argH K s₁.heap A = H at hO hok hS hK noA
  have base_of : ∀ {b : Addr} {o : Obj}, s₁.heap.get? b = some o → H b = none → (hidT s₁.heap H).get? b = some o := fun e n => hidT_get e n
  have nsK : ∀ {b : Addr} {m : Str → Option Value}, s₁.heap.Ns b m → (hidT s₁.heap H).Ns b m := fun {b m} ⟨o, es, ep, e, d, r⟩ => ⟨o, es, ep, base_of e (noA e d), d, r⟩
  have nK : ∀ b o, K.lookup b = some o → H b = none := fun b o e => by
    cases q : H b with
    | none => rfl
    | some u =>
      rw [hK b u q] at e
      cases e
  have hKb : K.In (hidT s₁.heap H) := fun b o e => base_of (KX b o e) (nK b o e)
  have hM : Mod K mg (hidT s₁.heap H) := ⟨hKb, nsK hns, ⟨mb, nsK hb, hbb⟩, let ⟨mc, h1, h2⟩ := hlim; ⟨mc, nsK h1, h2⟩⟩
  have e0 : Env0 P w K mg (hidT s₁.heap H) callerA [] s₁ H := ⟨rfl, hM, fun b o e => of_hidT e, Nat.le_of_eq (hidT_size _ _), trivial, fun b hb => absurd (show b ∈ ([] : List Addr) from hb) (by simp), hok, .of_eq hg⟩
  have hl : vals.length = ps.length := by rw [wellAll_len hwl]; exact hlen
  refine codeAny_mono ((F _ hKb (nsK hns)).run callerA [] s₁ H ⟨vals, []⟩ vals (vals.map toV) _ _ hr e0 (hbind s₁ vals hl) hV (hsp H _ hO hS)) fun r s' x => ?_
  cases r with
  | error e => exact (hCX H e s' x).elim
  | ok fl =>
    cases fl with
    | next => exact False.elim x
    | brk => exact False.elim x
    | cont => exact False.elim x
    | ret u =>
      obtain ⟨v, H', os, bare, un, hok', r', q⟩ := x
      have kept : ∀ b o, s₁.heap.get? b = some o → s'.heap.get? b = some o := fun b o e => by
        cases q2 : H b with
        | none => exact un.keep b o e q2 (by intro z; exact absurd (show b ∈ ([] : List Addr) from z) (by simp)) (by simp)
        | some u2 =>
          rcases hO b with z | ⟨ob, u3, z⟩
          · rw [q2] at z
            cases z
          · have z2 := un.frzs b ob _ z
            obtain ⟨e1, _⟩ := hok b _ z
            obtain ⟨e2, _⟩ := hok' b _ z2
            rw [e] at e1
            cases e1
            exact e2
      have KX' : K.In s'.heap := fun b o e => kept b o (KX b o e)
      obtain ⟨as, hrd⟩ := Dw.reads (R := R) (cl := cl) hok' KX' d0 v u q r'
      exact ⟨u, as, rfl, hrd, OldK.of_keep kept, os, bare⟩
/-! ### the row -/
theorem layable_weight {ds : List WData} (h : WData.layableAll ds = true) : ∀ d ∈ ds, d.weight ≤ 1048576 := fun d hd =>
  (PySem.W.layableW_iff.mp (List.all_eq_true.mp h d hd)).2.2
theorem encAll_len : ∀ (cs : List Codec) (a : Codec.denoteAll cs), (Codec.encAll cs a).length = cs.length
  | [], _ => rfl
  | c :: cs, a => by
    show (Codec.encAll cs a.2).length + 1 = cs.length + 1
    rw [encAll_len cs a.2]
/-- the goal that k_headS leaves (case hc), from the promise of the row's def: whatever the arguments that the codecs let and the row asks for, the def gives what stands for enc (f ..) -/
theorem walk_spec {r : OpenSpec} {k : Nat} {q : Program} {loose : List Str} {XP : (Str → Option Value) → Heap → Prop} {YP : World → Heap → Prop} {d : DefRec} {K : Params → PySem.W.Frag} {CX : World → CXT} {ps : List Str} {sp : World → Sp}
    (hwell : r.wellSaid = true) (hdf : d.params.defaults = []) (hlen : r.args.length = ps.length) (hr : Room k callerA)
    (hY : ∀ (w : World) (h : Heap), YP w h → (K w.params).In h)
    (F : ∀ (w : World) (mg : Str → Option Value) (fa : Addr) (h : Heap), YP w h → (K w.params).In h → h.Ns mainGlobals mg → mg d.name = some (.ref fa) →
      ∃ fd : FuncData, (∀ (s : Shared) (us : List Value), us.length = ps.length → BindsTo s fd ⟨us, []⟩ (ps.zip us)) ∧
        ∀ base : Heap, (K w.params).In base → base.Ns mainGlobals mg → FnOk r.prog w (K w.params) mg base (CX w) k fa fd ps (sp w))
    (hsp : ∀ (w : World) (H : Hp) (xs : List V) (a : Codec.denoteAll r.args), OnlyF H → Codec.withinAll r.args a = true → Codec.app r.args r.asked a = true → DwAll (K w.params) H xs (Codec.encAll r.args a) →
      sp w xs H (fun v H' => Dw (K w.params) H' v (r.ret.enc (Codec.app r.args r.f a))) fun _ _ _ => False)
    (hCX : ∀ (w : World) (H : Hp) (s : Shared) (e : Value) (s' : Shared), CX w [] H s (fun _ _ _ => False) e s' → False) :
    PySem.W.WalkOS q loose XP YP r d [] (fun f vs => PySem.call f vs) := by
  intro w s_0 s₁ mg mb G Y fa o pm cd doc dV kV ho hd hcd hD hmg hg args vals as hpre hlay hrd hwl hlo
  obtain ⟨a, e1, e2⟩ := PySem.W.os_pre_some hpre
  obtain ⟨e3, hwi⟩ := Codec.encAll_of_decAll r.args args a e1
  subst e3
  have KX := hY w _ Y
  obtain ⟨fd, hb, hF⟩ := F w mg fa _ Y KX G.T.g hmg
  refine PySem.W.enter_call (codeAny_mono (spec_call (R := []) (cl := classAt s_0.heap) (d0 := r.ret.enc (Codec.app r.args r.f a)) KX G.T.g G.T.b G.T.builtins G.T.nolimit hg hwl (pl_encAll _ _) (layable_weight hlay) hr hF hb (by rw [encAll_len]; exact hlen)
    (fun H xs hO hS => hsp w H xs a hO hwi e2 hS) fun H e s' => hCX w H s₁ e s') fun r' s' hq => ?_)
  obtain ⟨u, as', rfl, h1, h2, h3, h4⟩ := hq
  exact ⟨.inl ⟨u, _, as', rfl, fun _ => rfl, h1, (OpenSpec.post_iff hwell hwi _ _).mpr rfl, fun z => Bool.noConfusion (show false = true from z)⟩, h2, h3, h4⟩
/-- the same where the promise hangs on the written part alone -/
theorem walk_specK {r : OpenSpec} {k : Nat} {q : Program} {loose : List Str} {XP : (Str → Option Value) → Heap → Prop} {YP : World → Heap → Prop} {d : DefRec} {K : Params → PySem.W.Frag} {CX : CXT} {ps : List Str} {sp : PySem.W.Frag → Sp}
    (hwell : r.wellSaid = true) (hdf : d.params.defaults = []) (hlen : r.args.length = ps.length) (hr : Room k callerA)
    (hY : ∀ (w : World) (h : Heap), YP w h → (K w.params).In h)
    (F : ∀ (w : World) (mg : Str → Option Value) (fa : Addr) (h : Heap), YP w h → (K w.params).In h → h.Ns mainGlobals mg → mg d.name = some (.ref fa) →
      ∃ fd : FuncData, (∀ (s : Shared) (us : List Value), us.length = ps.length → BindsTo s fd ⟨us, []⟩ (ps.zip us)) ∧
        ∀ base : Heap, (K w.params).In base → base.Ns mainGlobals mg → FnOk r.prog w (K w.params) mg base CX k fa fd ps (sp (K w.params)))
    (hsp : ∀ (K : PySem.W.Frag) (H : Hp) (xs : List V) (a : Codec.denoteAll r.args), OnlyF H → Codec.withinAll r.args a = true → Codec.app r.args r.asked a = true → DwAll K H xs (Codec.encAll r.args a) →
      sp K xs H (fun v H' => Dw K H' v (r.ret.enc (Codec.app r.args r.f a))) fun _ _ _ => False)
    (hCX : ∀ (H : Hp) (s : Shared) (e : Value) (s' : Shared), CX [] H s (fun _ _ _ => False) e s' → False) :
    PySem.W.WalkOS q loose XP YP r d [] (fun f vs => PySem.call f vs) :=
  walk_spec (K := K) (CX := fun _ => CX) (sp := fun w => sp (K w.params)) hwell hdf hlen hr hY F (fun w H xs a h1 h2 h3 h4 => hsp (K w.params) H xs a h1 h2 h3 h4) fun _ H s e s' => hCX H s e s'
end L2
-- rests on (row put in by the clerk, for the bench that shows a file only what it spells): KE.SpHead KE.OsShapes
end

namespace BM
/-! The elimination over whole numbers, by index. h: gaps, K: kinks times the product of the gaps. -/
section
variable (h K : Nat → Int)
def M : Nat → Int
  | 0 => 1
  | 1 => 2 * (h 0 + h 1)
  | i + 2 => 2 * (h (i + 1) + h (i + 2)) * M (i + 1) - h (i + 1) * h (i + 1) * M i
def S : Nat → Int
  | 0 => 0
  | i + 1 => M h i * K (i + 1) - h i * S i
/-- the sixth at n - j, times W -/
def xr (n : Nat) (W : Int) : Nat → Int
  | 0 => 0
  | j + 1 => (S h K (n - 1 - j) * W - M h (n - 2 - j) * h (n - 1 - j) * xr n W j) / M h (n - 1 - j)
def x (n : Nat) (W : Int) (i : Nat) : Int := if i = 0 then 0 else xr h K n W (n - i)
end
section
variable {h K : Nat → Int} {n : Nat}
theorem M_pos (hp : ∀ i, i ≤ n → 0 < h i) : ∀ i, i ≤ n → 0 < M h i ∧ (1 ≤ i → h i * M h (i - 1) < M h i)
  | 0, _ => ⟨by simp [M], by omega⟩
  | 1, le => by
    have h0 := hp 0 (by omega)
    have h1 := hp 1 le
    refine ⟨by simp only [M]; omega, fun _ => ?_⟩
    simp only [M, Nat.sub_self]; omega
  | i + 2, le => by
    obtain ⟨p1, q1⟩ := M_pos hp (i + 1) (by omega)
    obtain ⟨p0, _⟩ := M_pos hp i (by omega)
    have q1 := q1 (by omega)
    rw [Nat.add_sub_cancel] at q1
    have h1 := hp (i + 1) (by omega)
    have h2 := hp (i + 2) le
    have key : h (i + 2) * M h (i + 1) < M h (i + 2) := by
      simp only [M]
      have e1 : h (i + 1) * (h (i + 1) * M h i) < h (i + 1) * M h (i + 1) := Int.mul_lt_mul_of_pos_left q1 h1
      have e2 : 0 < h (i + 1) * M h (i + 1) := Int.mul_pos h1 p1
      have e3 : 0 < h (i + 2) * M h (i + 1) := Int.mul_pos h2 p1
      grind
    refine ⟨?_, fun _ => by simpa using key⟩
    have e3 : 0 < h (i + 2) * M h (i + 1) := Int.mul_pos h2 p1
    omega
theorem M_step (i : Nat) (hi : 1 ≤ i) : M h (i + 1) = 2 * (h i + h (i + 1)) * M h i - h i * h i * M h (i - 1) := by
  obtain ⟨j, rfl⟩ : ∃ j, i = j + 1 := ⟨i - 1, by omega⟩
  simp only [M, Nat.add_sub_cancel]
/-- Cramer's rule: the divisions come out even -/
theorem even (hp : ∀ i, i < n → 0 < h i) : ∀ j, j + 2 ≤ n → ∃ f1 f2 R1 : Int,
    M h (n - 1) = M h (n - 1 - j) * f1 - h (n - 1 - j) * h (n - 1 - j) * M h (n - 2 - j) * f2 ∧
    xr h K n (M h (n - 1)) j = M h (n - 1 - j) * R1 - h (n - 1 - j) * S h K (n - 1 - j) * f2 ∧
    M h (n - 1 - j) * xr h K n (M h (n - 1)) (j + 1) = S h K (n - 1 - j) * M h (n - 1) - M h (n - 2 - j) * h (n - 1 - j) * xr h K n (M h (n - 1)) j ∧
    xr h K n (M h (n - 1)) (j + 1) = S h K (n - 1 - j) * f1 - M h (n - 2 - j) * h (n - 1 - j) * R1 := by
  have close : ∀ (j : Nat) (f1 f2 R1 : Int), j + 2 ≤ n →
      M h (n - 1) = M h (n - 1 - j) * f1 - h (n - 1 - j) * h (n - 1 - j) * M h (n - 2 - j) * f2 →
      xr h K n (M h (n - 1)) j = M h (n - 1 - j) * R1 - h (n - 1 - j) * S h K (n - 1 - j) * f2 →
      xr h K n (M h (n - 1)) (j + 1) = S h K (n - 1 - j) * f1 - M h (n - 2 - j) * h (n - 1 - j) * R1 := by
    intro j f1 f2 R1 hj e1 e2
    have p : 0 < M h (n - 1 - j) := (M_pos (n := n - 1) (fun i hi => hp i (by omega)) (n - 1 - j) (by omega)).1
    have e : S h K (n - 1 - j) * M h (n - 1) - M h (n - 2 - j) * h (n - 1 - j) * xr h K n (M h (n - 1)) j = M h (n - 1 - j) * (S h K (n - 1 - j) * f1 - M h (n - 2 - j) * h (n - 1 - j) * R1) := by
      rw [e2]; grind
    rw [xr, e, Int.mul_ediv_cancel_left _ (by omega)]
  have wrap : ∀ (j : Nat) (f1 f2 R1 : Int), j + 2 ≤ n →
      M h (n - 1) = M h (n - 1 - j) * f1 - h (n - 1 - j) * h (n - 1 - j) * M h (n - 2 - j) * f2 →
      xr h K n (M h (n - 1)) j = M h (n - 1 - j) * R1 - h (n - 1 - j) * S h K (n - 1 - j) * f2 →
      M h (n - 1 - j) * xr h K n (M h (n - 1)) (j + 1) = S h K (n - 1 - j) * M h (n - 1) - M h (n - 2 - j) * h (n - 1 - j) * xr h K n (M h (n - 1)) j := by
    intro j f1 f2 R1 hj e1 e2
    have e3 := close j f1 f2 R1 hj e1 e2
    rw [e3, e2]; grind
  intro j
  induction j with
  | zero =>
    intro hj
    refine ⟨1, 0, 0, by simp, by simp [xr], ?_, ?_⟩
    · exact wrap 0 1 0 0 hj (by simp) (by simp [xr])
    · exact close 0 1 0 0 hj (by simp) (by simp [xr])
  | succ j ih =>
    intro hj
    obtain ⟨f1, f2, R1, e1, e2, e3, e4⟩ := ih (by omega)
    obtain ⟨i, hi⟩ : ∃ i, n - 1 - j = i + 2 := ⟨n - 3 - j, by omega⟩
    have i1 : n - 2 - j = i + 1 := by omega
    have i2 : n - 1 - (j + 1) = i + 1 := by omega
    have i3 : n - 2 - (j + 1) = i := by omega
    have em : M h (i + 2) = 2 * (h (i + 1) + h (i + 2)) * M h (i + 1) - h (i + 1) * h (i + 1) * M h i := by simp only [M]
    have es : S h K (i + 2) = M h (i + 1) * K (i + 2) - h (i + 1) * S h K (i + 1) := by simp only [S]
    simp only [hi, i1] at e1 e2 e3 e4
    have g1 : M h (n - 1) = M h (n - 1 - (j + 1)) * (2 * (h (i + 1) + h (i + 2)) * f1 - h (i + 2) * h (i + 2) * f2) - h (n - 1 - (j + 1)) * h (n - 1 - (j + 1)) * M h (n - 2 - (j + 1)) * f1 := by
      rw [i2, i3, e1, em]; grind
    have g2 : xr h K n (M h (n - 1)) (j + 1) = M h (n - 1 - (j + 1)) * (K (i + 2) * f1 - h (i + 2) * R1) - h (n - 1 - (j + 1)) * S h K (n - 1 - (j + 1)) * f1 := by
      rw [i2, e4, es]; grind
    exact ⟨_, _, _, g1, g2, wrap (j + 1) _ _ _ hj g1 g2, close (j + 1) _ _ _ hj g1 g2⟩
/-- what is solved, row by row -/
theorem row (hp : ∀ i, i < n → 0 < h i) (i : Nat) (h1 : 1 ≤ i) (h2 : i < n) :
    M h i * x h K n (M h (n - 1)) i = S h K i * M h (n - 1) - M h (i - 1) * h i * x h K n (M h (n - 1)) (i + 1) := by
  obtain ⟨_, _, _, _, _, e, _⟩ := even (h := h) (K := K) (n := n) hp (n - 1 - i) (by omega)
  have a1 : n - 1 - (n - 1 - i) = i := by omega
  have a2 : n - 2 - (n - 1 - i) = i - 1 := by omega
  have a3 : n - 1 - i + 1 = n - i := by omega
  have a4 : n - (i + 1) = n - 1 - i := by omega
  rw [a1, a2, a3] at e
  unfold x
  rw [if_neg (by omega), if_neg (by omega), a4]
  exact e
theorem x_last (hn : 1 ≤ n) (W : Int) : x h K n W n = 0 := by
  unfold x; rw [if_neg (by omega), Nat.sub_self]; rfl
theorem x_zero (W : Int) : x h K n W 0 = 0 := rfl
/-- the three-term equation at an inner nail -/
theorem three (hp : ∀ i, i < n → 0 < h i) (i : Nat) (h1 : 1 ≤ i) (h2 : i < n) :
    h (i - 1) * x h K n (M h (n - 1)) (i - 1) + 2 * (h (i - 1) + h i) * x h K n (M h (n - 1)) i + h i * x h K n (M h (n - 1)) (i + 1) = K i * M h (n - 1) := by
  have r1 := row (K := K) hp i h1 h2
  by_cases hi : i = 1
  · subst hi
    simp only [Nat.sub_self, x_zero] at *
    have : M h 1 = 2 * (h 0 + h 1) := rfl
    have : S h K 1 = K 1 := by simp [S, M]
    have : M h 0 = 1 := rfl
    grind
  · have r0 := row (K := K) hp (i - 1) (by omega) (by omega)
    obtain ⟨j, rfl⟩ : ∃ j, i = j + 2 := ⟨i - 2, by omega⟩
    have q1 : j + 2 - 1 = j + 1 := by omega
    have q0 : j + 1 - 1 = j := by omega
    simp only [q1, q0] at *
    have em : M h (j + 2) = 2 * (h (j + 1) + h (j + 2)) * M h (j + 1) - h (j + 1) * h (j + 1) * M h j := by simp only [M]
    have es : S h K (j + 2) = M h (j + 1) * K (j + 2) - h (j + 1) * S h K (j + 1) := by simp only [S]
    have p : 0 < M h (j + 1) := (M_pos (n := n - 1) (fun i hi => hp i (by omega)) (j + 1) (by omega)).1
    rw [em, es] at r1
    refine Int.eq_of_mul_eq_mul_left (a := M h (j + 1)) (by omega) ?_
    grind
end
end BM

namespace BM
open Loft
def seg {α : Type} (f : Nat → α) : Nat → Nat → List α
  | _, 0 => []
  | i, k + 1 => f i :: seg f (i + 1) k
theorem seg_length {α : Type} (f : Nat → α) : ∀ k i, (seg f i k).length = k
  | 0, _ => rfl
  | k + 1, i => by simp [seg, seg_length f k]
theorem seg_get {α : Type} (f : Nat → α) : ∀ k i j, (seg f i k)[j]? = if j < k then some (f (i + j)) else none
  | 0, i, j => by simp [seg]
  | k + 1, i, 0 => by simp [seg]
  | k + 1, i, j + 1 => by
    rw [seg, List.getElem?_cons_succ, seg_get f k]
    by_cases hj : j < k
    · rw [if_pos hj, if_pos (by omega)]; congr 2; omega
    · rw [if_neg hj, if_neg (by omega)]
theorem seg_map {α β : Type} (f : Nat → α) (g : α → β) : ∀ k i, (seg f i k).map g = seg (fun j => g (f j)) i k
  | 0, _ => rfl
  | k + 1, i => by simp [seg, seg_map f g k]
theorem seg_congr {α : Type} {f g : Nat → α} : ∀ k i, (∀ j, i ≤ j → j < i + k → f j = g j) → seg f i k = seg g i k
  | 0, _, _ => rfl
  | k + 1, i, e => by
    rw [seg, seg, e i (by omega) (by omega), seg_congr k (i + 1) fun j a b => e j (by omega) (by omega)]
theorem seg_zip {α β : Type} (f : Nat → α) (g : Nat → β) : ∀ k i, (seg f i k).zip (seg g i k) = seg (fun j => (f j, g j)) i k
  | 0, _ => rfl
  | k + 1, i => by simp [seg, seg_zip f g k]
theorem seg_of {α : Type} (d : α) : ∀ (l : List α), l = seg (fun j => l.getD j d) 0 l.length := by
  intro l
  apply List.ext_getElem?
  intro j
  rw [seg_get]
  by_cases hj : j < l.length
  · rw [if_pos hj, List.getElem?_eq_getElem hj]; simp [List.getD, hj]
  · rw [if_neg hj, List.getElem?_eq_none (by omega)]

/-- a line's numbers: places, heights of the nails, the gaps' product, that over each gap -/
structure Line where
  X : Nat → Int
  Y : Nat → Int
  n : Nat
  P : Int
  D : Nat → Int
  hn : 1 ≤ n
  up : ∀ i, i < n → X i < X (i + 1)
  hD : ∀ i, i < n → D i * (X (i + 1) - X i) = P
  hP : 0 < P
namespace Line
variable (L : Line)
def h (i : Nat) : Int := L.X (i + 1) - L.X i
def K (i : Nat) : Int := (L.Y (i + 1) - L.Y i) * L.D i - (L.Y i - L.Y (i - 1)) * L.D (i - 1)
def W : Int := M L.h (L.n - 1)
def s (i : Nat) : Int := x L.h L.K L.n L.W i
def U : Int := L.W * L.P
theorem hp (i : Nat) (hi : i < L.n) : 0 < L.h i := by have := L.up i hi; unfold h; omega
theorem Mp (i : Nat) (hi : i < L.n) : 0 < M L.h i := (M_pos (n := L.n - 1) (fun i _ => L.hp i (by have := L.hn; omega)) i (by omega)).1
theorem Wp : 0 < L.W := L.Mp _ (by have := L.hn; omega)
theorem Up : 0 < L.U := Int.mul_pos L.Wp L.hP
def nail (i : Nat) : Nail := ((L.X i : Rat), (L.Y i : Rat))
def c (i : Nat) : Rat := 3 * (L.s i : Rat) / (L.U : Rat)
def al (i : Nat) : Rat := if i = 0 then 0 else -(L.h i : Rat) * (M L.h (i - 1) : Rat) / (M L.h i : Rat)
def be (i : Nat) : Rat := 3 * (S L.h L.K i : Rat) / ((L.P : Rat) * (M L.h i : Rat))
theorem ne0 {z : Int} (h : 0 < z) : (z : Rat) ≠ 0 := by
  have := Rat.intCast_pos.mpr h
  intro e; rw [e] at this; exact Rat.lt_irrefl this
theorem hR (i : Nat) : (L.h i : Rat) = (L.X (i + 1) : Rat) - (L.X i : Rat) := by unfold h; rw [Rat.intCast_sub]
theorem kink (i : Nat) (h1 : 1 ≤ i) (h2 : i < L.n) :
    ((L.Y (i + 1) : Rat) - L.Y i) / (L.h i : Rat) - ((L.Y i : Rat) - L.Y (i - 1)) / (L.h (i - 1) : Rat) = (L.K i : Rat) / (L.P : Rat) := by
  have e1 : (L.D i : Rat) * (L.h i : Rat) = L.P := by rw [← Rat.intCast_mul]; exact congrArg _ (L.hD i h2)
  have e0 : (L.D (i - 1) : Rat) * (L.h (i - 1) : Rat) = L.P := by
    have := L.hD (i - 1) (by omega)
    rw [← Rat.intCast_mul]; exact congrArg _ this
  have n1 := ne0 (L.hp i h2)
  have n0 := ne0 (L.hp (i - 1) (by omega))
  have nP := ne0 L.hP
  have eK : (L.K i : Rat) = ((L.Y (i + 1) : Rat) - L.Y i) * L.D i - ((L.Y i : Rat) - L.Y (i - 1)) * L.D (i - 1) := by
    unfold K; simp only [Rat.intCast_sub, Rat.intCast_mul]
  rw [eK]
  grind
/-- the row in quotients -/
theorem rowQ (i : Nat) (hi : i < L.n) : L.c i = L.al i * L.c (i + 1) + L.be i := by
  have nW := ne0 L.Wp
  have nP := ne0 L.hP
  have nM := ne0 (L.Mp i hi)
  have eU : (L.U : Rat) = (L.W : Rat) * L.P := by unfold U; rw [Rat.intCast_mul]
  by_cases h0 : i = 0
  · subst h0
    have e1 : L.s 0 = 0 := rfl
    unfold c al be
    rw [e1, if_pos rfl]
    simp only [S]
    grind
  · have r := row (K := L.K) L.hp i (by omega) hi
    have r' : (M L.h i : Rat) * (L.s i : Rat) = (S L.h L.K i : Rat) * (L.W : Rat) - (M L.h (i - 1) : Rat) * (L.h i : Rat) * (L.s (i + 1) : Rat) := by
      have := congrArg (fun z : Int => (z : Rat)) r
      simp only [Rat.intCast_sub, Rat.intCast_mul] at this
      exact this
    unfold c al be
    rw [if_neg h0, eU]
    grind
theorem alS (i : Nat) (hi : i + 1 < L.n) : -(L.h (i + 1) : Rat) / (2 * ((L.h i : Rat) + L.h (i + 1)) + L.h i * L.al i) = L.al (i + 1) ∧
    2 * ((L.h i : Rat) + L.h (i + 1)) + L.h i * L.al i = (M L.h (i + 1) : Rat) / (M L.h i : Rat) := by
  have n0 := ne0 (L.Mp i (by omega))
  have n1 := ne0 (L.Mp (i + 1) hi)
  have key : 2 * ((L.h i : Rat) + L.h (i + 1)) + L.h i * L.al i = (M L.h (i + 1) : Rat) / (M L.h i : Rat) := by
    by_cases h0 : i = 0
    · subst h0
      have e : (M L.h 1 : Rat) = 2 * ((L.h 0 : Rat) + L.h 1) := by
        rw [show M L.h 1 = 2 * (L.h 0 + L.h 1) from rfl]
        simp only [Rat.intCast_mul, Rat.intCast_add]; rfl
      have e0 : (M L.h 0 : Rat) = 1 := rfl
      simp only [al, if_pos, Nat.zero_add]
      rw [e, e0]
      grind
    · have e : (M L.h (i + 1) : Rat) = 2 * ((L.h i : Rat) + L.h (i + 1)) * (M L.h i : Rat) - L.h i * L.h i * (M L.h (i - 1) : Rat) := by
        rw [M_step i (by omega)]
        simp only [Rat.intCast_sub, Rat.intCast_mul, Rat.intCast_add]; rfl
      unfold al
      rw [if_neg h0, e]
      grind
  refine ⟨?_, key⟩
  rw [key]
  have e : L.al (i + 1) = -(L.h (i + 1) : Rat) * (M L.h i : Rat) / (M L.h (i + 1) : Rat) := by
    unfold al; rw [if_neg (by omega), Nat.add_sub_cancel]
  rw [e]
  grind
theorem beS (i : Nat) (hi : i + 1 < L.n) :
    (3 * (((L.Y (i + 2) : Rat) - L.Y (i + 1)) / (L.h (i + 1) : Rat) - ((L.Y (i + 1) : Rat) - L.Y i) / (L.h i : Rat)) - L.h i * L.be i) / (2 * ((L.h i : Rat) + L.h (i + 1)) + L.h i * L.al i) = L.be (i + 1) := by
  have n0 := ne0 (L.Mp i (by omega))
  have n1 := ne0 (L.Mp (i + 1) hi)
  have nP := ne0 L.hP
  have k := L.kink (i + 1) (by omega) hi
  rw [Nat.add_sub_cancel] at k
  rw [(L.alS i hi).2, k]
  have e : (S L.h L.K (i + 1) : Rat) = (M L.h i : Rat) * L.K (i + 1) - L.h i * (S L.h L.K i : Rat) := by
    rw [show S L.h L.K (i + 1) = M L.h i * L.K (i + 1) - L.h i * S L.h L.K i from rfl]
    simp only [Rat.intCast_sub, Rat.intCast_mul]
  unfold be
  rw [e]
  grind
theorem halves_eq : ∀ (k i : Nat), i + k + 1 = L.n → halves (L.al i) (L.be i) (seg L.nail i (k + 2)) = seg L.c i (k + 2)
  | 0, i, e => by
    have hl : L.c (i + 1) = 0 := by
      unfold c s
      rw [show i + 1 = L.n by omega, x_last L.hn]
      simp [Rat.div_def]
    have r := L.rowQ i (by omega)
    rw [hl] at r
    simp only [seg, halves]
    rw [hl, r]
    simp [Rat.zero_add]
  | k + 1, i, e => by
    have a := L.alS i (by omega)
    have b := L.beS i (by omega)
    have ih := halves_eq (k + 1 - 1) (i + 1) (by omega)
    have e1 : (L.nail (i + 1)).1 - (L.nail i).1 = (L.h i : Rat) := (L.hR i).symm
    have e2 : (L.nail (i + 2)).1 - (L.nail (i + 1)).1 = (L.h (i + 1) : Rat) := (L.hR (i + 1)).symm
    rw [show seg L.nail i (k + 1 + 2) = L.nail i :: L.nail (i + 1) :: L.nail (i + 2) :: seg L.nail (i + 3) k from rfl]
    rw [halves]
    simp only [e1, e2]
    rw [show L.nail (i + 1) :: L.nail (i + 2) :: seg L.nail (i + 3) k = seg L.nail (i + 1) (k + 2) from rfl]
    rw [a.1]
    have b' : (3 * (((L.nail (i + 2)).2 - (L.nail (i + 1)).2) / (L.h (i + 1) : Rat) - ((L.nail (i + 1)).2 - (L.nail i).2) / (L.h i : Rat)) - L.h i * L.be i) / (2 * ((L.h i : Rat) + L.h (i + 1)) + L.h i * L.al i) = L.be (i + 1) := b
    rw [b']
    rw [show k + 1 - 1 + 2 = k + 2 by omega] at ih
    rw [ih]
    rw [show seg L.c i (k + 1 + 2) = L.c i :: seg L.c (i + 1) (k + 2) from rfl]
    rw [L.rowQ i (by omega)]
    rfl
/-- the cubic from nail i on -/
def pc (i : Nat) : Piece := ⟨(L.X i : Rat), (L.h i : Rat), (L.Y i : Rat), ((L.Y (i + 1) : Rat) - L.Y i) / (L.h i : Rat) - L.h i * (2 * L.c i + L.c (i + 1)) / 3, L.c i, (L.c (i + 1) - L.c i) / (3 * (L.h i : Rat))⟩
theorem pieces_eq : ∀ (k i : Nat), pieces (seg L.nail i (k + 1)) (seg L.c i (k + 1)) = seg L.pc i k
  | 0, i => by simp [seg, pieces]
  | k + 1, i => by
    rw [show seg L.nail i (k + 1 + 1) = L.nail i :: L.nail (i + 1) :: seg L.nail (i + 2) k from rfl, show seg L.c i (k + 1 + 1) = L.c i :: L.c (i + 1) :: seg L.c (i + 2) k from rfl]
    rw [pieces]
    have ih := pieces_eq k (i + 1)
    rw [show seg L.nail (i + 1) (k + 1) = L.nail (i + 1) :: seg L.nail (i + 2) k from rfl, show seg L.c (i + 1) (k + 1) = L.c (i + 1) :: seg L.c (i + 2) k from rfl] at ih
    rw [ih]
    have e1 : (L.nail (i + 1)).1 - (L.nail i).1 = (L.h i : Rat) := (L.hR i).symm
    simp only [e1]
    rfl
theorem batten_eq : batten (seg L.nail 0 (L.n + 1)) = seg L.pc 0 L.n := by
  unfold batten
  have e := L.halves_eq (L.n - 1) 0 (by have := L.hn; omega)
  have e0 : L.al 0 = 0 := rfl
  have e1 : L.be 0 = 0 := by unfold be; simp [S, Rat.div_def]
  rw [e0, e1, show L.n - 1 + 2 = L.n + 1 by have := L.hn; omega] at e
  rw [e]
  exact L.pieces_eq L.n 0
end Line
end BM

namespace BM
open Loft
/-- of a cubic, told t behind its beginning -/
def tell (p : Piece) (t : Rat) (what : Nat) : Rat := if what = 0 then p.value t else if what = 1 then p.slope t else p.bend t
theorem mono {X : Nat → Int} {n : Nat} (up : ∀ i, i < n → X i < X (i + 1)) : ∀ k i, i + k + 1 ≤ n → X i < X (i + k + 1)
  | 0, i, h => up i (by omega)
  | k + 1, i, h => Int.lt_trans (mono up k i (by omega)) (up (i + k + 1) (by omega))
theorem mono' {X : Nat → Int} {n : Nat} (up : ∀ i, i < n → X i < X (i + 1)) {i j : Nat} (hij : i < j) (hj : j ≤ n) : X i < X j := by
  have := mono up (j - i - 1) i (by omega)
  rwa [show i + (j - i - 1) + 1 = j by omega] at this
theorem find_seg {α : Type} (f : Nat → α) (p : α → Bool) : ∀ (k i : Nat), (∃ j, i ≤ j ∧ j < i + k ∧ p (f j) = true ∧ (∀ j', i ≤ j' → j' < j → p (f j') = false) ∧ (seg f i k).find? p = some (f j)) ∨ (∀ j, i ≤ j → j < i + k → p (f j) = false)
  | 0, i => .inr fun j _ _ => by omega
  | k + 1, i => by
    cases e : p (f i) with
    | true => exact .inl ⟨i, by omega, by omega, e, fun j' _ _ => by omega, by simp [seg, e]⟩
    | false =>
      rcases find_seg f p k (i + 1) with ⟨j, a, b, c, d, q⟩ | q
      · refine .inl ⟨j, by omega, by omega, c, fun j' a' b' => ?_, by simp [seg, e, q]⟩
        by_cases hj : j' = i
        · rw [hj, e]
        · exact d j' (by omega) b'
      · refine .inr fun j a b => ?_
        by_cases hj : j = i
        · rw [hj, e]
        · exact q j (by omega) (by omega)
theorem mv {y0 y1 h c0 c1 : Rat} (n : h ≠ 0) : y0 + h * ((y1 - y0) / h - h * (2 * c0 + c1) / 3 + h * (c0 + h * ((c1 - c0) / (3 * h)))) = y1 := by
  have e : (c1 - c0) / (3 * h) = (c1 - c0) / 3 / h := by grind
  rw [e]; grind
theorem mb {h c0 c1 : Rat} (n : h ≠ 0) : 2 * c0 + h * (6 * ((c1 - c0) / (3 * h))) = 2 * c1 := by
  have e : (c1 - c0) / (3 * h) = (c1 - c0) / 3 / h := by grind
  rw [e]; grind
theorem ms {y0 y1 y2 h g c0 c1 c2 : Rat} (n : h ≠ 0) (n' : g ≠ 0) (t : h * c0 + 2 * (h + g) * c1 + g * c2 = 3 * ((y2 - y1) / g - (y1 - y0) / h)) :
    (y1 - y0) / h - h * (2 * c0 + c1) / 3 + h * (2 * c0 + h * (3 * ((c1 - c0) / (3 * h)))) = (y2 - y1) / g - g * (2 * c1 + c2) / 3 := by
  have e : (c1 - c0) / (3 * h) = (c1 - c0) / 3 / h := by grind
  rw [e]
  generalize (y2 - y1) / g = A at *
  generalize (y1 - y0) / h = B at *
  grind
namespace Line
variable (L : Line)
theorem threeQ (i : Nat) (h1 : 1 ≤ i) (h2 : i < L.n) :
    L.h (i - 1) * L.c (i - 1) + 2 * ((L.h (i - 1) : Rat) + L.h i) * L.c i + L.h i * L.c (i + 1) = 3 * ((L.K i : Rat) / L.P) := by
  have nW := ne0 L.Wp
  have nP := ne0 L.hP
  have eU : (L.U : Rat) = (L.W : Rat) * L.P := by unfold U; rw [Rat.intCast_mul]
  have r := three (K := L.K) L.hp i h1 h2
  have r' : (L.h (i - 1) : Rat) * L.s (i - 1) + 2 * ((L.h (i - 1) : Rat) + L.h i) * L.s i + L.h i * L.s (i + 1) = L.K i * L.W := by
    have := congrArg (fun z : Int => (z : Rat)) r
    simp only [Rat.intCast_add, Rat.intCast_mul] at this
    exact this
  unfold c
  rw [eU]
  grind
/-- where two cubics meet -/
theorem meet (i what : Nat) (h1 : 1 ≤ i) (h2 : i < L.n) : tell (L.pc (i - 1)) (L.h (i - 1)) what = tell (L.pc i) 0 what := by
  have n0 := ne0 (L.hp (i - 1) (by omega))
  have n1 := ne0 (L.hp i h2)
  have t := L.threeQ i h1 h2
  have k := L.kink i h1 h2
  rw [← k] at t
  have ei : i - 1 + 1 = i := by omega
  unfold tell
  split
  · simp only [pc, Piece.value, ei, Rat.zero_mul, Rat.add_zero]; exact mv n0
  · split
    · simp only [pc, Piece.slope, ei, Rat.zero_mul, Rat.add_zero]; exact ms n0 n1 t
    · simp only [pc, Piece.bend, ei, Rat.zero_mul, Rat.add_zero]; exact mb n0
theorem told_eq {x : Rat} {i : Nat} (what : Nat) (hi : i < L.n) (lo : (L.X i : Rat) ≤ x) (hi' : x ≤ (L.X (i + 1) : Rat)) : told (seg L.pc 0 L.n) x what = tell (L.pc i) (x - L.X i) what := by
  have ends : ∀ j, (L.pc j).at_ + (L.pc j).h = (L.X (j + 1) : Rat) := fun j => by
    show (L.X j : Rat) + (L.h j : Rat) = _
    rw [L.hR]; grind
  unfold told pieceAt
  rcases find_seg L.pc (fun p => decide (x ≤ p.at_ + p.h)) L.n 0 with ⟨j, _, hj, a, b, e⟩ | q
  · rw [e]
    have hx : x ≤ (L.X (j + 1) : Rat) := by have := of_decide_eq_true a; rwa [ends] at this
    have hji : j ≤ i := by
      refine Nat.le_of_not_lt fun hl => ?_
      have := b i (by omega) hl
      rw [ends] at this
      exact of_decide_eq_false this hi'
    by_cases hjj : j = i
    · subst hjj; rfl
    · have h1 : L.X (j + 1) ≤ L.X i := by
        by_cases q : j + 1 = i
        · rw [q]; exact Int.le_refl _
        · exact Int.le_of_lt (mono' L.up (by omega) (by omega))
      have h1' : (L.X (j + 1) : Rat) ≤ L.X i := Rat.intCast_le_intCast.mpr h1
      have ex : x = L.X i := Rat.le_antisymm (Rat.le_trans hx h1') lo
      have h2 : L.X i ≤ L.X (j + 1) := Rat.intCast_le_intCast.mp (Rat.le_trans lo hx)
      have hji2 : j + 1 = i := by
        refine Classical.byContradiction fun q => ?_
        have := mono' L.up (i := j + 1) (j := i) (by omega) (by omega)
        omega
      have m := L.meet i what (by omega) hi
      rw [show i - 1 = j by omega] at m
      rw [ex, show (L.X i : Rat) - L.X i = 0 by grind, ← m]
      show tell (L.pc j) ((L.X i : Rat) - (L.X j : Rat)) what = _
      rw [L.hR, hji2]
  · have := q i (by omega) (by omega)
    rw [ends] at this
    exact absurd hi' (of_decide_eq_false this)
/-- the program's four numbers and their divisor -/
def scale (i : Nat) : Int := L.h i * L.U
def cb (i : Nat) : Int := L.U * (L.Y (i + 1) - L.Y i) - L.h i * L.h i * (2 * L.s i + L.s (i + 1))
def cc (i : Nat) : Int := 3 * L.h i * L.s i
def cd (i : Nat) : Int := L.s (i + 1) - L.s i
theorem scp (i : Nat) (hi : i < L.n) : 0 < L.scale i := Int.mul_pos (L.hp i hi) L.Up
theorem pa (i : Nat) (hi : i < L.n) : (L.pc i).a = ((L.Y i * L.scale i : Int) : Rat) / (L.scale i : Rat) := by
  have n := ne0 (L.scp i hi)
  rw [Rat.intCast_mul]
  show (L.Y i : Rat) = _
  grind
theorem pb (i : Nat) (hi : i < L.n) : (L.pc i).b = (L.cb i : Rat) / (L.scale i : Rat) := by
  have n1 := ne0 L.Up
  have n2 := ne0 (L.hp i hi)
  simp only [pc, cb, scale, c, Rat.intCast_mul, Rat.intCast_sub, Rat.intCast_add, show ((2 : Int) : Rat) = 2 from rfl]
  grind
theorem pcc (i : Nat) (hi : i < L.n) : (L.pc i).c = (L.cc i : Rat) / (L.scale i : Rat) := by
  have n1 := ne0 L.Up
  have n2 := ne0 (L.hp i hi)
  simp only [pc, cc, scale, c, Rat.intCast_mul, show ((3 : Int) : Rat) = 3 from rfl]
  grind
theorem pd (i : Nat) (hi : i < L.n) : (L.pc i).d = (L.cd i : Rat) / (L.scale i : Rat) := by
  have n1 := ne0 L.Up
  have n2 := ne0 (L.hp i hi)
  simp only [pc, cd, scale, c, Rat.intCast_mul, Rat.intCast_sub, show ((3 : Int) : Rat) = 3 from rfl]
  grind
/-- what the program derives at p / q on cubic i: above and below -/
def dnum (i : Nat) (p q : Int) (what : Int) : Int :=
  let t := p - L.X i * q
  if what = 0 then ((L.cd i * t + L.cc i * q) * t + L.cb i * q * q) * t + L.Y i * L.scale i * q ^ 3
  else if what = 1 then (3 * L.cd i * t + 2 * L.cc i * q) * t + L.cb i * q * q
  else 6 * L.cd i * t + 2 * L.cc i * q
def dden (i : Nat) (q : Int) (what : Int) : Int := if what = 0 then L.scale i * q ^ 3 else if what = 1 then L.scale i * q * q else L.scale i * q
theorem dden_pos (i : Nat) (hi : i < L.n) (q what : Int) (hq : 0 < q) : 0 < L.dden i q what := by
  have := L.scp i hi
  have q3 : 0 < q ^ 3 := Int.pow_pos hq
  unfold dden
  split
  · exact Int.mul_pos this q3
  · split
    · exact Int.mul_pos (Int.mul_pos this hq) hq
    · exact Int.mul_pos this hq
theorem derived_eq (i : Nat) (hi : i < L.n) (p q what : Int) (hq : 0 < q) (w0 : 0 ≤ what) :
    tell (L.pc i) ((p : Rat) / q - L.X i) what.toNat = (L.dnum i p q what : Rat) / (L.dden i q what : Rat) := by
  have nq := ne0 hq
  have ns := ne0 (L.scp i hi)
  unfold tell dnum dden
  by_cases e0 : what = 0
  · subst e0
    simp only [Int.toNat_zero, if_pos, Piece.value, L.pa i hi, L.pb i hi, L.pcc i hi, L.pd i hi]
    simp only [Rat.intCast_add, Rat.intCast_mul, Rat.intCast_sub, show q ^ 3 = q * q * q by rw [Int.pow_succ, Int.pow_succ, Int.pow_succ, Int.pow_zero, Int.one_mul]]
    grind
  · by_cases e1 : what = 1
    · subst e1
      simp only [show (1 : Int).toNat = 1 from rfl, if_pos, Piece.slope, L.pb i hi, L.pcc i hi, L.pd i hi, show ¬ (1 : Nat) = 0 by decide, show ¬ (1 : Int) = 0 by decide, if_false]
      simp only [Rat.intCast_add, Rat.intCast_mul, Rat.intCast_sub, show ((2 : Int) : Rat) = 2 from rfl, show ((3 : Int) : Rat) = 3 from rfl]
      grind
    · simp only [if_neg e0, if_neg e1, if_neg (show ¬ what.toNat = 0 by omega), if_neg (show ¬ what.toNat = 1 by omega), Piece.bend, L.pcc i hi, L.pd i hi]
      simp only [Rat.intCast_add, Rat.intCast_mul, Rat.intCast_sub, show ((2 : Int) : Rat) = 2 from rfl, show ((6 : Int) : Rat) = 6 from rfl]
      grind
end Line
/-- lowest terms -/
theorem number_div (a b : Int) (hb : 0 < b) : LoftBattenSeed.number ((a : Rat) / (b : Rat)) = [a / (Nat.gcd a.natAbs b.natAbs : Int), b / (Nat.gcd a.natAbs b.natAbs : Int)] := by
  unfold LoftBattenSeed.number
  rw [← Rat.divInt_eq_div, Rat.num_divInt, Rat.den_divInt, if_neg (by omega), Int.sign_eq_one_of_pos hb, Int.one_mul, Int.gcd_comm]
  have e : ((b.natAbs : Nat) : Int) = b := by omega
  rw [Int.natCast_ediv, e]
  rfl
theorem rdiv_mul {a b c : Rat} (hb : 0 < b) : a / b ≤ c ↔ a ≤ c * b := by
  have h := Rat.lt_div_iff (a := c) (b := a) hb
  constructor
  · intro q; exact Rat.not_lt.mp fun z => absurd q (Rat.not_le.mpr (h.mpr z))
  · intro q; exact Rat.not_lt.mp fun z => absurd q (Rat.not_le.mpr (h.mp z))
theorem le_rdiv {a b c : Rat} (hc : 0 < c) : a ≤ b / c ↔ a * c ≤ b := by
  have h := Rat.div_lt_iff (a := b) (c := a) hc
  constructor
  · intro q; exact Rat.not_lt.mp fun z => absurd q (Rat.not_le.mpr (h.mpr z))
  · intro q; exact Rat.not_lt.mp fun z => absurd q (Rat.not_le.mpr (h.mp z))
/-- to the nearest, of two the even one -/
theorem nearest_div (a b : Int) (hb : 0 < b) : nearest ((a : Rat) / (b : Rat)) = if 2 * (a - a / b * b) > b ∨ (2 * (a - a / b * b) = b ∧ a / b % 2 = 1) then a / b + 1 else a / b := by
  have bp : (0 : Rat) < b := Rat.intCast_pos.mpr hb
  have nb := Line.ne0 hb
  have key : ∀ g : Int, ((a : Rat) / b + 1 / 2).floor = g ↔ 2 * g * b ≤ 2 * a + b ∧ 2 * a + b < 2 * (g + 1) * b := by
    intro g
    have k1 : g ≤ ((a : Rat) / b + 1 / 2).floor ↔ 2 * g * b ≤ 2 * a + b := by
      rw [Rat.le_floor_iff, ← Rat.intCast_le_intCast]
      simp only [Rat.intCast_mul, Rat.intCast_add, show ((2 : Int) : Rat) = 2 from rfl]
      have : (g : Rat) ≤ (a : Rat) / b + 1 / 2 ↔ (g : Rat) - 1 / 2 ≤ (a : Rat) / b := by constructor <;> intro <;> grind
      rw [this, le_rdiv bp]
      constructor <;> intro <;> grind
    have k2 : ((a : Rat) / b + 1 / 2).floor < g + 1 ↔ 2 * a + b < 2 * (g + 1) * b := by
      rw [Rat.floor_lt_iff, ← Rat.intCast_lt_intCast]
      simp only [Rat.intCast_mul, Rat.intCast_add, show ((2 : Int) : Rat) = 2 from rfl, show ((1 : Int) : Rat) = 1 from rfl]
      have : (a : Rat) / b + 1 / 2 < (g : Rat) + 1 ↔ (a : Rat) / b < (g : Rat) + 1 / 2 := by constructor <;> intro <;> grind
      rw [this, Rat.div_lt_iff bp]
      constructor <;> intro <;> grind
    rw [← k1, ← k2]
    omega
  have tie : ∀ g : Int, ((g : Rat) = (a : Rat) / b + 1 / 2) ↔ 2 * g * b = 2 * a + b := by
    intro g
    rw [← Rat.intCast_inj (a := 2 * g * b)]
    simp only [Rat.intCast_mul, Rat.intCast_add, show ((2 : Int) : Rat) = 2 from rfl]
    constructor <;> intro <;> grind
  have ed := Int.mul_ediv_add_emod a b
  have r0 := Int.emod_nonneg a (by omega : b ≠ 0)
  have r1 := Int.emod_lt_of_pos a hb
  generalize hf : a / b = f at *
  generalize hr : a % b = r at *
  have ea : a = b * f + r := ed.symm
  have er : a - f * b = r := by rw [ea]; grind
  unfold nearest
  rw [er]
  by_cases c1 : 2 * r > b
  · have fl := (key (f + 1)).mpr ⟨by rw [ea]; grind, by rw [ea]; grind⟩
    have nt : ¬ ((f + 1 : Int) : Rat) = (a : Rat) / b + 1 / 2 := by rw [tie, ea]; intro z; grind
    simp only [fl, nt, false_and, if_false]
    rw [if_pos (.inl c1)]
  · by_cases c2 : 2 * r = b
    · have fl := (key (f + 1)).mpr ⟨by rw [ea]; grind, by rw [ea]; grind⟩
      have nt : ((f + 1 : Int) : Rat) = (a : Rat) / b + 1 / 2 := by rw [tie, ea]; grind
      simp only [fl, nt, true_and]
      by_cases c3 : f % 2 = 1
      · rw [if_neg (by omega), if_pos (.inr ⟨c2, c3⟩)]
      · rw [if_pos (by omega), if_neg (by omega)]; omega
    · have fl := (key f).mpr ⟨by rw [ea]; grind, by rw [ea]; grind⟩
      have nt : ¬ (f : Rat) = (a : Rat) / b + 1 / 2 := by rw [tie, ea]; intro z; grind
      simp only [fl, nt, false_and, if_false]
      rw [if_neg (by omega)]
end BM

namespace BM
open Loft
/-! ### a line out of two rows of numbers -/
def prodL (h : Nat → Int) : Nat → Int
  | 0 => 1
  | n + 1 => prodL h n * h n
theorem prodL_pos {h : Nat → Int} : ∀ {n : Nat}, (∀ i, i < n → 0 < h i) → 0 < prodL h n
  | 0, _ => by show (0 : Int) < 1; decide
  | n + 1, hp => Int.mul_pos (prodL_pos fun i hi => hp i (by omega)) (hp n (by omega))
theorem prodL_dvd {h : Nat → Int} : ∀ {n i : Nat}, i < n → h i ∣ prodL h n
  | n + 1, i, hi => by
    by_cases e : i = n
    · subst e; exact ⟨prodL h i, by rw [prodL, Int.mul_comm]⟩
    · obtain ⟨c, hc⟩ := prodL_dvd (h := h) (n := n) (i := i) (by omega)
      exact ⟨c * h n, by rw [prodL, hc, Int.mul_assoc]⟩
def mkLine (X Y : Nat → Int) (n : Nat) (hn : 1 ≤ n) (up : ∀ i, i < n → X i < X (i + 1)) : Line where
  X := X
  Y := Y
  n := n
  P := prodL (fun i => X (i + 1) - X i) n
  D := fun i => prodL (fun i => X (i + 1) - X i) n / (X (i + 1) - X i)
  hn := hn
  up := up
  hD := fun i hi => Int.ediv_mul_cancel (prodL_dvd (h := fun i => X (i + 1) - X i) hi)
  hP := prodL_pos fun i hi => by have := up i hi; omega
/-! ### tables -/
theorem measure_iff (z : Int) : isMeasure z = false ↔ (z < -1048575 ∨ 1048575 < z) := by
  unfold isMeasure MOST
  rw [decide_eq_false_iff_not]; omega
/-- what firstBad finds nowhere: each is a measure, .. and above the one before -/
theorem firstBad_none {f : Bool} : ∀ {l : List Int} {a : Int} {k : Nat}, firstBad f (some a) l k = none →
    (∀ z ∈ l, -1048575 ≤ z ∧ z ≤ 1048575 ∧ (f = true → 0 ≤ z)) ∧ (∀ i, i < l.length → (if i = 0 then a else l.getD (i - 1) 0) < l.getD i 0)
  | [], _, _, _ => ⟨fun z h => (by simp at h), fun i h => by simp at h⟩
  | z :: r, a, k, h => by
    unfold firstBad at h
    split at h
    · cases h
    · rename_i hc
      have hc1 : ¬ isMeasure z = false := fun e => hc (.inl e)
      have hc2 : ¬ (f = true ∧ z < 0) := fun e => hc (.inr (.inl e))
      have hc3 : ¬ z ≤ a := fun e => hc (.inr (.inr (by simpa using e)))
      rw [measure_iff] at hc1
      have h' : firstBad f (some z) r (k + 1) = none := h
      obtain ⟨g1, g2⟩ := firstBad_none h'
      refine ⟨fun x hx => ?_, fun i hx => ?_⟩
      · rcases List.mem_cons.mp hx with e | e
        · subst e
          refine ⟨by omega, by omega, fun e => ?_⟩
          have := fun q => hc2 ⟨e, q⟩
          exact Int.not_lt.mp this
        · exact g1 x e
      · cases i with
        | zero =>
          show a < z
          omega
        | succ i =>
          have q := g2 i (by simpa using hx)
          cases i with
          | zero => simpa using q
          | succ i => simpa using q
theorem firstBad_none0 : ∀ {l : List Int} {k : Nat}, firstBad true none l k = none → ∀ z ∈ l, 0 ≤ z ∧ z ≤ 1048575
  | [], _, _, z, h => by simp at h
  | y :: r, k, h, z, hz => by
    unfold firstBad at h
    split at h
    · cases h
    · rename_i hc
      have hc1 : ¬ isMeasure y = false := fun e => hc (.inl e)
      have hc2 : ¬ (y < 0) := fun e => hc (.inr (.inl ⟨rfl, e⟩))
      rw [measure_iff] at hc1
      rcases List.mem_cons.mp hz with e | e
      · subst e; omega
      · exact firstBad_none0 (by simpa using h) z e
/-- a table's rows -/
structure Good (xs zs ys : List Int) : Prop where
  xl : 2 ≤ xs.length ∧ xs.length ≤ 24
  zl : 2 ≤ zs.length ∧ zs.length ≤ 16
  yl : ys.length = xs.length * zs.length
  xb : ∀ z ∈ xs, -1048575 ≤ z ∧ z ≤ 1048575
  zb : ∀ z ∈ zs, -1048575 ≤ z ∧ z ≤ 1048575
  yb : ∀ z ∈ ys, 0 ≤ z ∧ z ≤ 1048575
  xu : ∀ i, i + 1 < xs.length → xs.getD i 0 < xs.getD (i + 1) 0
  zu : ∀ i, i + 1 < zs.length → zs.getD i 0 < zs.getD (i + 1) 0
theorem rise_of {l : List Int} {a : Int} (h : ∀ i, i < l.length → (if i = 0 then a else l.getD (i - 1) 0) < l.getD i 0) (i : Nat) (hi : i + 1 < l.length) : l.getD i 0 < l.getD (i + 1) 0 := by
  have q := h (i + 1) hi
  rwa [if_neg (Nat.succ_ne_zero i), Nat.add_sub_cancel] at q
def tableOf (xs zs ys : List Int) : Table := ⟨xs, zs, (List.range zs.length).map fun (j : Nat) => (ys.drop (j * xs.length)).take xs.length⟩
theorem judge_ok {xs zs ys : List Int} {T : Table} (h : judge xs zs ys = .ok T) : Good xs zs ys ∧ T = tableOf xs zs ys := by
  unfold judge at h
  split at h
  · cases h
  split at h
  · cases h
  split at h
  · cases h
  rename_i h1 h2 h3
  unfold STATIONS at h1
  unfold LEVELS at h2
  split at h
  · cases h
  rename_i e1
  split at h
  · cases h
  rename_i e2
  split at h
  · cases h
  rename_i e3
  have a := firstBad_none e1
  have b := firstBad_none e2
  refine ⟨⟨by omega, by omega, by omega, fun z hz => ⟨(a.1 z hz).1, (a.1 z hz).2.1⟩, fun z hz => ⟨(b.1 z hz).1, (b.1 z hz).2.1⟩, firstBad_none0 e3, rise_of a.2, rise_of b.2⟩, ?_⟩
  injection h with h
  exact h.symm
/-- the nails of a line: how many, places, heights -/
def lineN (xs zs : List Int) (way : Nat) : Nat := if way = 0 then xs.length else zs.length
def lineX (xs zs : List Int) (way : Nat) (i : Nat) : Int := if way = 0 then xs.getD i 0 else zs.getD i 0
def lineY (xs ys : List Int) (way k : Nat) (i : Nat) : Int := if way = 0 then ys.getD (k * xs.length + i) 0 else ys.getD (i * xs.length + k) 0
theorem line_up {xs zs ys : List Int} (G : Good xs zs ys) (way : Nat) : ∀ i, i < lineN xs zs way - 1 → lineX xs zs way i < lineX xs zs way (i + 1) := by
  intro i hi
  unfold lineN at hi
  unfold lineX
  by_cases h : way = 0
  · rw [if_pos h] at hi; rw [if_pos h, if_pos h]; exact G.xu i (by omega)
  · rw [if_neg h] at hi; rw [if_neg h, if_neg h]; exact G.zu i (by omega)
def lineOf {xs zs ys : List Int} (G : Good xs zs ys) (way k : Nat) : Line :=
  mkLine (lineX xs zs way) (lineY xs ys way k) (lineN xs zs way - 1) (by unfold lineN; have := G.xl; have := G.zl; split <;> omega) (line_up G way)
theorem ext_seg {α : Type} {l : List α} {f : Nat → α} {n : Nat} (hl : l.length = n) (h : ∀ i, i < n → l[i]? = some (f i)) : l = seg f 0 n := by
  apply List.ext_getElem?
  intro i
  rw [seg_get]
  by_cases hi : i < n
  · rw [if_pos hi, h i hi, Nat.zero_add]
  · rw [if_neg hi, List.getElem?_eq_none (by omega)]
theorem getElem_getD {l : List Int} {i : Nat} (h : i < l.length) : l[i]? = some (l.getD i 0) := by
  simp [List.getD, h]
theorem mul_bound {a b m k : Nat} (h : a < m) (hk : b < k) : a * k + b < m * k := by
  have : (a + 1) * k ≤ m * k := Nat.mul_le_mul_right k h
  rw [Nat.succ_mul] at this; omega
theorem line_eq {xs zs ys : List Int} (G : Good xs zs ys) {way k : Nat} (hw : way < 2) (hk : k < (tableOf xs zs ys).lines way) :
    (tableOf xs zs ys).line way k = seg (lineOf G way k).nail 0 ((lineOf G way k).n + 1) := by
  have xl := G.xl
  have zl := G.zl
  have yl := G.yl
  have en : (lineOf G way k).n + 1 = lineN xs zs way := by
    show lineN xs zs way - 1 + 1 = _
    unfold lineN; split <;> omega
  rw [en]
  unfold Table.lines at hk
  unfold Table.line
  by_cases h : way = 0
  · subst h
    rw [if_pos rfl] at hk ⊢
    have hk' : k < zs.length := hk
    have e1 : (tableOf xs zs ys).ys.getD k [] = (ys.drop (k * xs.length)).take xs.length := by
      show ((List.range zs.length).map fun (j : Nat) => (ys.drop (j * xs.length)).take xs.length).getD k [] = _
      simp [List.getD, hk']
    rw [e1]
    have hb : k * xs.length + xs.length ≤ xs.length * zs.length := by
      have : (k + 1) * xs.length ≤ zs.length * xs.length := Nat.mul_le_mul_right _ hk'
      rw [Nat.succ_mul, Nat.mul_comm zs.length] at this; omega
    have l2 : ((ys.drop (k * xs.length)).take xs.length).length = xs.length := by
      rw [List.length_take, List.length_drop]; omega
    refine ext_seg (by simp only [List.length_map, List.length_zip]; rw [l2]; show min xs.length xs.length = lineN xs zs 0; simp [lineN]) fun i hi => ?_
    have hi' : i < xs.length := by simpa [lineN] using hi
    rw [List.getElem?_map, List.getElem?_zip_eq_some (z := (xs.getD i 0, ys.getD (k * xs.length + i) 0)) |>.mpr ⟨getElem_getD (l := (tableOf xs zs ys).xs) hi', (by rw [List.getElem?_take, if_pos hi', List.getElem?_drop]; exact getElem_getD (by omega) : ((ys.drop (k * xs.length)).take xs.length)[i]? = some (ys.getD (k * xs.length + i) 0))⟩]
    rfl
  · have h1 : way = 1 := by omega
    subst h1
    rw [if_neg h] at hk ⊢
    have hk' : k < xs.length := hk
    refine ext_seg ?_ fun i hi => ?_
    · simp only [List.length_map, List.length_zip]
      show min zs.length ((List.range zs.length).map _).length = lineN xs zs 1
      simp [lineN]
    have hi' : i < zs.length := by simpa [lineN] using hi
    have hb := mul_bound hi' hk'
    rw [Nat.mul_comm zs.length] at hb
    have e2 : (((tableOf xs zs ys).ys.map fun (l : List Int) => l.getD k 0))[i]? = some (ys.getD (i * xs.length + k) 0) := by
      show ((((List.range zs.length).map fun (j : Nat) => (ys.drop (j * xs.length)).take xs.length)).map fun (l : List Int) => l.getD k 0)[i]? = _
      rw [List.getElem?_map, List.getElem?_map, List.getElem?_range hi']
      simp only [Option.map_some]
      congr 1
      unfold List.getD
      rw [List.getElem?_take, if_pos hk', List.getElem?_drop]
    rw [List.getElem?_map, List.getElem?_zip_eq_some (z := (zs.getD i 0, ys.getD (i * xs.length + k) 0)) |>.mpr ⟨getElem_getD (l := (tableOf xs zs ys).zs) hi', e2⟩]
    rfl
/-! ### calls -/
theorem call_forms {c : List (List Int)} (h : PyFlat.okCall PyWqlftb.shape c) :
    (∃ x z y, c = [[1], x, z, y]) ∨ (∃ w k p q a, c = [[2, w, k, p, q, a]]) ∨ (∃ w k x, c = [[3, w, k, x]]) ∨ (∃ w k i, c = [[4, w, k, i]]) ∨
    (∃ w k, c = [[5, w, k]]) ∨ (∃ w k, c = [[6, w, k]]) ∨ (∃ w k, c = [[7, w, k]]) := by
  obtain ⟨p, a, xs, rfl, hs⟩ := h
  unfold PyWqlftb.shape at hs
  split at hs
  · rename_i e; subst e
    injection hs with hs; injection hs with h1 h2
    match a, xs, h1, h2 with
    | [], [x, z, y], _, _ => exact .inl ⟨x, z, y, rfl⟩
  split at hs
  · rename_i e; subst e
    injection hs with hs; injection hs with h1 h2
    match a, xs, h1, h2 with
    | [w, k, p', q, b], [], _, _ => exact .inr (.inl ⟨w, k, p', q, b, rfl⟩)
  split at hs
  · rename_i e; subst e
    injection hs with hs; injection hs with h1 h2
    match a, xs, h1, h2 with
    | [w, k, x], [], _, _ => exact .inr (.inr (.inl ⟨w, k, x, rfl⟩))
  split at hs
  · rename_i e; subst e
    injection hs with hs; injection hs with h1 h2
    match a, xs, h1, h2 with
    | [w, k, x], [], _, _ => exact .inr (.inr (.inr (.inl ⟨w, k, x, rfl⟩)))
  split at hs
  · rename_i e; subst e
    injection hs with hs; injection hs with h1 h2
    match a, xs, h1, h2 with
    | [w, k], [], _, _ => exact .inr (.inr (.inr (.inr (.inl ⟨w, k, rfl⟩))))
  split at hs
  · rename_i e; subst e
    injection hs with hs; injection hs with h1 h2
    match a, xs, h1, h2 with
    | [w, k], [], _, _ => exact .inr (.inr (.inr (.inr (.inr (.inl ⟨w, k, rfl⟩)))))
  split at hs
  · rename_i e; subst e
    injection hs with hs; injection hs with h1 h2
    match a, xs, h1, h2 with
    | [w, k], [], _, _ => exact .inr (.inr (.inr (.inr (.inr (.inr ⟨w, k, rfl⟩)))))
  · cases hs
theorem whole_id {c : List (List Int)} (h : PyFlat.okCall PyWqlftb.shape c) : PyWqlftb.whole c = c := by
  rcases call_forms h with ⟨x, z, y, rfl⟩ | ⟨w, k, p, q, a, rfl⟩ | ⟨w, k, x, rfl⟩ | ⟨w, k, i, rfl⟩ | ⟨w, k, rfl⟩ | ⟨w, k, rfl⟩ | ⟨w, k, rfl⟩ <;> rfl
theorem map_id_of {α : Type} {f : α → α} : ∀ {l : List α}, (∀ x ∈ l, f x = x) → l.map f = l
  | [], _ => rfl
  | x :: r, h => by
    rw [List.map_cons, h x (List.mem_cons.mpr (.inl rfl)), map_id_of fun y hy => h y (List.mem_cons.mpr (.inr hy))]
/-- what is asked: a list of calls, put one behind another -/
theorem asked_put {l : List Int} (h : PyWqlftb.answers_asked l = true) : ∃ cs : List (List (List Int)), l = PyFlat.put cs ∧ (∀ c ∈ cs, PyFlat.okCall PyWqlftb.shape c) ∧ cs.length ≤ 1000 ∧
    PyWqlftb.answers l = PyFlat.told (PyFlat.played BattenNeutral.step BattenNeutral.start cs) := by
  unfold PyWqlftb.answers_asked at h
  unfold PyWqlftb.answers
  cases e : PyWqlftb.calls l with
  | none => rw [e] at h; cases h
  | some cs =>
    rw [e] at h
    have h1 : cs.length ≤ 1000 := of_decide_eq_true (Bool.and_eq_true_iff.mp h).1
    unfold PyWqlftb.calls at e
    cases e2 : PyFlat.calls PyWqlftb.shape l.length l with
    | none => rw [e2] at e; cases e
    | some ds =>
      rw [e2] at e
      injection e with e
      obtain ⟨p1, p2⟩ := PyFlat.put_calls _ _ _ e2
      have e3 : ds.map PyWqlftb.whole = ds := map_id_of fun c hc => whole_id (p2 c hc)
      rw [e3] at e
      subst e
      exact ⟨ds, p1, p2, h1, rfl⟩
end BM

namespace BM
open Loft LoftBattenSeed
/-! ### make -/
def kindOf (e : Except Fault Table) : List Int := match e with
  | .error f => [(f.1 : Int), (f.2 : Int)]
  | .ok _ => [0, 0]
def verdictI (xs zs ys : List Int) : List Int :=
  if xs.length < 2 ∨ 24 < xs.length then [2, 0] else if zs.length < 2 ∨ 16 < zs.length then [2, 1] else if ys.length ≠ xs.length * zs.length then [1, (ys.length : Int)] else
  match firstBad true (some BELOW) xs 0 with
  | some k => [3, (k : Int)]
  | none => match firstBad false (some BELOW) zs 0 with
    | some k => [4, (k : Int)]
    | none => match firstBad true none ys 0 with
      | some k => [5, (k : Int)]
      | none => [0, 0]
theorem verdict_eq (xs zs ys : List Int) : kindOf (judge xs zs ys) = verdictI xs zs ys := by
  unfold judge verdictI STATIONS LEVELS
  split
  · rfl
  split
  · rfl
  split
  · rfl
  cases firstBad true (some BELOW) xs 0 with
  | some k => rfl
  | none =>
    cases firstBad false (some BELOW) zs 0 with
    | some k => rfl
    | none =>
      cases firstBad true none ys 0 with
      | some k => rfl
      | none => rfl
theorem verdict_ok {xs zs ys : List Int} : verdictI xs zs ys = [0, 0] ↔ ∃ T, judge xs zs ys = .ok T := by
  rw [← verdict_eq]
  constructor
  · intro h
    cases e : judge xs zs ys with
    | ok T => exact ⟨T, rfl⟩
    | error f =>
      rw [e] at h
      exfalso
      unfold judge at e
      have k2 : ∀ a b : Nat, (Except.error (a, b) : Except Fault Table) = .error f → a ≠ 0 → False := by
        intro a b z ha
        injection z with z
        subst z
        have : (a : Int) = 0 := (List.cons.inj h).1
        omega
      split at e
      · exact k2 _ _ e (by decide)
      split at e
      · exact k2 _ _ e (by decide)
      split at e
      · exact k2 _ _ e (by decide)
      split at e
      · exact k2 _ _ e (by decide)
      split at e
      · exact k2 _ _ e (by decide)
      split at e
      · exact k2 _ _ e (by decide)
      · cases e
  · rintro ⟨T, e⟩; rw [e]; rfl
theorem step_make (s : State) (xs zs ys : List Int) : LoftBattenSeed.step s (.make xs zs ys) = ((if verdictI xs zs ys = [0, 0] then some (tableOf xs zs ys) else s), 0 :: verdictI xs zs ys) := by
  show (match judge xs zs ys with
    | .error f => (s, tells [(f.1 : Int), (f.2 : Int)])
    | .ok T => (some T, tells [0, 0])) = _
  by_cases h : verdictI xs zs ys = [0, 0]
  · obtain ⟨T, e⟩ := verdict_ok.mp h
    rw [e, if_pos h, h, (judge_ok e).2]; rfl
  · rw [if_neg h]
    cases e : judge xs zs ys with
    | ok T => exact absurd (verdict_ok.mpr ⟨T, e⟩) h
    | error f =>
      rw [← verdict_eq, e]; rfl
/-- the next item of a row that should rise -/
def bad (f : Bool) (a : Option Int) (z : Int) : Prop := isMeasure z = false ∨ (f = true ∧ z < 0) ∨ a.any (fun (y : Int) => decide (z ≤ y)) = true
instance {f : Bool} {a : Option Int} {z : Int} : Decidable (bad f a z) := by unfold bad; infer_instance
theorem firstBad_cons {f : Bool} {a : Option Int} {z : Int} {r : List Int} {k : Nat} : firstBad f a (z :: r) k = if bad f a z then some k else firstBad f (if a.isSome = true then some z else none) r (k + 1) := rfl
/-! ### the calls on a line -/
theorem seg_head {α : Type} (f : Nat → α) (i k : Nat) : (seg f i (k + 1)).head? = some (f i) := rfl
theorem seg_last {α : Type} (f : Nat → α) : ∀ k i, (seg f i (k + 1)).getLast? = some (f (i + k))
  | 0, i => rfl
  | k + 1, i => by
    rw [show seg f i (k + 1 + 1) = f i :: f (i + 1) :: seg f (i + 2) k from rfl, List.getLast?_cons_cons]
    have := seg_last f k (i + 1)
    rw [show seg f (i + 1) (k + 1) = f (i + 1) :: seg f (i + 2) k from rfl] at this
    rw [this]
    congr 2; omega
theorem reach_iff (L : Line) (p q : Int) (hq : 0 < q) : reaches (seg L.nail 0 (L.n + 1)) ((p : Rat) / (q : Rat)) = (decide (L.X 0 * q ≤ p) && decide (p ≤ L.X L.n * q)) := by
  unfold reaches
  rw [seg_head, seg_last, Nat.zero_add]
  have qp : (0 : Rat) < q := Rat.intCast_pos.mpr hq
  have a1 : ((L.X 0 : Rat) ≤ (p : Rat) / q) ↔ L.X 0 * q ≤ p := by
    rw [le_rdiv qp, ← Rat.intCast_mul, Rat.intCast_le_intCast]
  have a2 : ((p : Rat) / q ≤ (L.X L.n : Rat)) ↔ p ≤ L.X L.n * q := by
    rw [rdiv_mul qp, ← Rat.intCast_mul, Rat.intCast_le_intCast]
  show (decide ((L.X 0 : Rat) ≤ (p : Rat) / q) && decide ((p : Rat) / q ≤ (L.X L.n : Rat))) = _
  rw [decide_eq_decide.mpr a1, decide_eq_decide.mpr a2]
theorem one_div (x : Int) : (x : Rat) = (x : Rat) / ((1 : Int) : Rat) := by
  rw [show ((1 : Int) : Rat) = 1 from rfl]; grind
theorem told_at (L : Line) {i : Nat} {p q what : Int} (hi : i < L.n) (hq : 0 < q) (w0 : 0 ≤ what) (lo : L.X i * q ≤ p) (hi' : p ≤ L.X (i + 1) * q) :
    told (batten (seg L.nail 0 (L.n + 1))) ((p : Rat) / q) what.toNat = (L.dnum i p q what : Rat) / (L.dden i q what : Rat) := by
  have qp : (0 : Rat) < q := Rat.intCast_pos.mpr hq
  rw [L.batten_eq, L.told_eq (i := i) what.toNat hi ?_ ?_, L.derived_eq i hi p q what hq w0]
  · rw [le_rdiv qp, ← Rat.intCast_mul, Rat.intCast_le_intCast]; exact lo
  · rw [rdiv_mul qp, ← Rat.intCast_mul, Rat.intCast_le_intCast]; exact hi'
/-- lowest terms, as the program tells them -/
def lowI (a b : Int) : List Int := [a / (Nat.gcd a.natAbs b.natAbs : Int), b / (Nat.gcd a.natAbs b.natAbs : Int)]
def nearI (a b : Int) : Int := if 2 * (a - a / b * b) > b ∨ (2 * (a - a / b * b) = b ∧ a / b % 2 = 1) then a / b + 1 else a / b
section
variable {xs zs ys : List Int} (G : Good xs zs ys) {way k : Int}
theorem within_iff (v : Int) (n : Nat) : within v n = true ↔ 0 ≤ v ∧ v < n := by
  unfold within; simp
theorem within_not (v : Int) (n : Nat) : within v n = false ↔ ¬ (0 ≤ v ∧ v < n) := by
  rw [← within_iff, Bool.not_eq_true]
def linesI (xs zs : List Int) (way : Int) : Nat := if way = 0 then zs.length else xs.length
theorem lines_eq (hw : way = 0 ∨ way = 1) : (tableOf xs zs ys).lines way.toNat = linesI xs zs way := by
  rcases hw with rfl | rfl <;> rfl
theorem ofLine_none {b : Bool} {f : List Nail → List Piece → Answer} : ofLine none b way k f = [-5] := rfl
theorem ofLine_bad {T : Table} {b : Bool} {f : List Nail → List Piece → Answer} (h : b = true ∨ ¬ (way = 0 ∨ way = 1)) : ofLine (some T) b way k f = [-1] := by
  unfold ofLine
  show (if b = true ∨ within way 2 = false then no 1 else _) = _
  rw [if_pos]
  · rfl
  · rcases h with h | h
    · exact .inl h
    · exact .inr ((within_not _ _).mpr (by omega))
theorem ofLine_no {b : Bool} {f : List Nail → List Piece → Answer} (hb : b = false) (hw : way = 0 ∨ way = 1) (hk : ¬ (0 ≤ k ∧ k < linesI xs zs way)) : ofLine (some (tableOf xs zs ys)) b way k f = [-4] := by
  unfold ofLine
  show (if b = true ∨ within way 2 = false then no 1 else if within k ((tableOf xs zs ys).lines way.toNat) = false then no 4 else _) = _
  rw [if_neg, lines_eq hw, if_pos ((within_not _ _).mpr hk)]
  · rfl
  · rintro (h | h)
    · rw [hb] at h; cases h
    · exact (within_not _ _).mp h (by omega)
theorem ofLine_ok {b : Bool} {f : List Nail → List Piece → Answer} (hb : b = false) (hw : way = 0 ∨ way = 1) (hk : 0 ≤ k ∧ k < linesI xs zs way) :
    ofLine (some (tableOf xs zs ys)) b way k f = f (seg (lineOf G way.toNat k.toNat).nail 0 ((lineOf G way.toNat k.toNat).n + 1)) (batten (seg (lineOf G way.toNat k.toNat).nail 0 ((lineOf G way.toNat k.toNat).n + 1))) := by
  unfold ofLine
  show (if b = true ∨ within way 2 = false then no 1 else if within k ((tableOf xs zs ys).lines way.toNat) = false then no 4 else f _ _) = _
  rw [if_neg, lines_eq hw, if_neg, line_eq G (by omega)]
  · rw [lines_eq hw]; omega
  · rw [within_not]; exact fun h => h hk
  · rintro (h | h)
    · rw [hb] at h; cases h
    · exact (within_not _ _).mp h (by omega)
def badAt (q what : Int) : Bool := decide (q < 1) || (decide ((PARTS : Int) < q) || !within what 3)
theorem badAt_iff (q what : Int) : badAt q what = false ↔ (1 ≤ q ∧ q ≤ 1048576) ∧ 0 ≤ what ∧ what ≤ 2 := by
  unfold badAt PARTS
  simp only [Bool.or_eq_false_iff, decide_eq_false_iff_not, Bool.not_eq_false', within_iff]
  omega
theorem at_eq (s : State) (p q what : Int) : (LoftBattenSeed.step s (.at_ way k p q what)).2 = ofLine s (badAt q what) way k fun (l : List Nail) (ps : List Piece) => if reaches l ((p : Rat) / (q : Rat)) = false then no 4 else tells (number (told ps ((p : Rat) / (q : Rat)) what.toNat)) := rfl
theorem near_eq (s : State) (x : Int) : (LoftBattenSeed.step s (.near way k x)).2 = ofLine s false way k fun (l : List Nail) (ps : List Piece) => if reaches l (x : Rat) = false then no 4 else tells [nearest (told ps (x : Rat) 0)] := rfl
theorem piece_eq (s : State) (i : Int) : (LoftBattenSeed.step s (.piece way k i)).2 = ofLine s false way k fun (_ : List Nail) (ps : List Piece) => if i < 0 then no 4 else match ps[i.toNat]? with
    | some p => tells (number p.a ++ (number p.b ++ (number p.c ++ number p.d)))
    | none => no 4 := rfl
theorem at_far {p q what : Int} (hb : badAt q what = false) (hw : way = 0 ∨ way = 1) (hk : 0 ≤ k ∧ k < linesI xs zs way)
    (h : ¬ ((lineOf G way.toNat k.toNat).X 0 * q ≤ p ∧ p ≤ (lineOf G way.toNat k.toNat).X (lineOf G way.toNat k.toNat).n * q)) :
    (LoftBattenSeed.step (some (tableOf xs zs ys)) (.at_ way k p q what)).2 = [-4] := by
  rw [at_eq]
  rw [ofLine_ok G hb hw hk]
  have hq := (badAt_iff q what).mp hb
  rw [reach_iff _ _ _ (by omega), if_pos]
  · rfl
  · rw [Bool.and_eq_false_iff, decide_eq_false_iff_not, decide_eq_false_iff_not]; omega
theorem at_ok {p q what : Int} (hb : badAt q what = false) (hw : way = 0 ∨ way = 1) (hk : 0 ≤ k ∧ k < linesI xs zs way) {i : Nat} (hi : i < (lineOf G way.toNat k.toNat).n)
    (c1 : (lineOf G way.toNat k.toNat).X 0 * q ≤ p) (c2 : p ≤ (lineOf G way.toNat k.toNat).X (lineOf G way.toNat k.toNat).n * q)
    (lo : (lineOf G way.toNat k.toNat).X i * q ≤ p) (hi' : p ≤ (lineOf G way.toNat k.toNat).X (i + 1) * q) :
    (LoftBattenSeed.step (some (tableOf xs zs ys)) (.at_ way k p q what)).2 = 0 :: lowI ((lineOf G way.toNat k.toNat).dnum i p q what) ((lineOf G way.toNat k.toNat).dden i q what) := by
  rw [at_eq]
  rw [ofLine_ok G hb hw hk]
  have hq := (badAt_iff q what).mp hb
  rw [reach_iff _ _ _ (by omega), decide_eq_true c1, decide_eq_true c2, if_neg (by simp), told_at _ hi (by omega) (by omega) lo hi', number_div _ _ (Line.dden_pos _ i hi q what (by omega))]
  rfl
theorem near_far {x : Int} (hw : way = 0 ∨ way = 1) (hk : 0 ≤ k ∧ k < linesI xs zs way)
    (h : ¬ ((lineOf G way.toNat k.toNat).X 0 * 1 ≤ x ∧ x ≤ (lineOf G way.toNat k.toNat).X (lineOf G way.toNat k.toNat).n * 1)) :
    (LoftBattenSeed.step (some (tableOf xs zs ys)) (.near way k x)).2 = [-4] := by
  rw [near_eq]
  rw [ofLine_ok G rfl hw hk, one_div x, reach_iff _ _ _ (by omega), if_pos]
  · rfl
  · rw [Bool.and_eq_false_iff, decide_eq_false_iff_not, decide_eq_false_iff_not]; omega
theorem near_ok {x : Int} (hw : way = 0 ∨ way = 1) (hk : 0 ≤ k ∧ k < linesI xs zs way) {i : Nat} (hi : i < (lineOf G way.toNat k.toNat).n)
    (c1 : (lineOf G way.toNat k.toNat).X 0 * 1 ≤ x) (c2 : x ≤ (lineOf G way.toNat k.toNat).X (lineOf G way.toNat k.toNat).n * 1)
    (lo : (lineOf G way.toNat k.toNat).X i * 1 ≤ x) (hi' : x ≤ (lineOf G way.toNat k.toNat).X (i + 1) * 1) :
    (LoftBattenSeed.step (some (tableOf xs zs ys)) (.near way k x)).2 = [0, nearI ((lineOf G way.toNat k.toNat).dnum i x 1 0) ((lineOf G way.toNat k.toNat).dden i 1 0)] := by
  rw [near_eq]
  have t := told_at (lineOf G way.toNat k.toNat) (what := 0) hi (by omega) (by omega) lo hi'
  rw [← one_div x, show (0 : Int).toNat = 0 from rfl] at t
  rw [ofLine_ok G rfl hw hk, t, nearest_div _ _ (Line.dden_pos _ i hi 1 0 (by omega)), one_div x, reach_iff _ _ _ (by omega), decide_eq_true c1, decide_eq_true c2, if_neg (by simp)]
  rfl
theorem piece_no {i : Int} (hw : way = 0 ∨ way = 1) (hk : 0 ≤ k ∧ k < linesI xs zs way) (h : ¬ (0 ≤ i ∧ i < (lineOf G way.toNat k.toNat).n)) :
    (LoftBattenSeed.step (some (tableOf xs zs ys)) (.piece way k i)).2 = [-4] := by
  rw [piece_eq]
  rw [ofLine_ok G rfl hw hk, Line.batten_eq]
  by_cases h0 : i < 0
  · rw [if_pos h0]; rfl
  · rw [if_neg h0, seg_get, if_neg (by omega)]; rfl
theorem piece_ok {i : Nat} (hw : way = 0 ∨ way = 1) (hk : 0 ≤ k ∧ k < linesI xs zs way) (hi : i < (lineOf G way.toNat k.toNat).n) :
    (LoftBattenSeed.step (some (tableOf xs zs ys)) (.piece way k i)).2 =
      0 :: (lowI ((lineOf G way.toNat k.toNat).Y i * (lineOf G way.toNat k.toNat).scale i) ((lineOf G way.toNat k.toNat).scale i) ++
        (lowI ((lineOf G way.toNat k.toNat).cb i) ((lineOf G way.toNat k.toNat).scale i) ++ (lowI ((lineOf G way.toNat k.toNat).cc i) ((lineOf G way.toNat k.toNat).scale i) ++ lowI ((lineOf G way.toNat k.toNat).cd i) ((lineOf G way.toNat k.toNat).scale i)))) := by
  rw [piece_eq]
  have sp := Line.scp _ i hi
  rw [ofLine_ok G rfl hw hk, Line.batten_eq, if_neg (by omega), seg_get, Int.toNat_natCast, if_pos hi, Nat.zero_add]
  show tells (number _ ++ (number _ ++ (number _ ++ number _))) = _
  rw [Line.pa _ i hi, Line.pb _ i hi, Line.pcc _ i hi, Line.pd _ i hi, number_div _ _ sp, number_div _ _ sp, number_div _ _ sp, number_div _ _ sp]
  rfl
end
end BM

namespace BM
/-! ### sizes: below two to the power m, either way -/
def B (x : Int) (m : Nat) : Prop := x.natAbs < 2 ^ m
theorem B.mono {x : Int} {m k : Nat} (h : B x m) (hk : m ≤ k) : B x k := Nat.lt_of_lt_of_le h (Nat.pow_le_pow_right (by decide) hk)
theorem B.add {x y : Int} {m : Nat} (hx : B x m) (hy : B y m) : B (x + y) (m + 1) := by
  unfold B at *
  rw [Nat.pow_succ]
  omega
theorem B.sub {x y : Int} {m : Nat} (hx : B x m) (hy : B y m) : B (x - y) (m + 1) := by
  unfold B at *
  rw [Nat.pow_succ]
  omega
theorem B.mul {x y : Int} {m k : Nat} (hx : B x m) (hy : B y k) : B (x * y) (m + k) := by
  unfold B at *
  rw [Int.natAbs_mul, Nat.pow_add]
  exact Nat.mul_lt_mul'' hx hy
theorem B.neg {x : Int} {m : Nat} (hx : B x m) : B (-x) m := by unfold B at *; omega
theorem B.le {x y : Int} {m : Nat} (hx : B x m) (h : y.natAbs ≤ x.natAbs) : B y m := Nat.lt_of_le_of_lt h hx
theorem B.lt {x : Int} {m : Nat} (h : B x m) : x < 2 ^ m := by
  unfold B at h
  have : ((x.natAbs : Nat) : Int) < ((2 ^ m : Nat) : Int) := Int.ofNat_lt.mpr h
  rw [Int.natCast_pow] at this
  have h2 : x ≤ (x.natAbs : Int) := Int.le_natAbs
  exact Int.lt_of_le_of_lt h2 this
theorem B.of {x : Int} {m : Nat} (h1 : -(2 ^ m) < x) (h2 : x < 2 ^ m) : B x m := by
  unfold B
  have : ((x.natAbs : Nat) : Int) < ((2 ^ m : Nat) : Int) := by
    rw [Int.natCast_pow]
    show _ < (2 : Int) ^ m
    omega
  exact Int.ofNat_lt.mp this
theorem B.ediv {x y : Int} {m : Nat} (hx : B x m) (hy : 0 < y) : B (x / y) (m + 1) := by
  have h : (x / y).natAbs ≤ x.natAbs + 1 := by
    have e := Int.mul_ediv_add_emod x y
    have r0 := Int.emod_nonneg x (by omega : y ≠ 0)
    have r1 := Int.emod_lt_of_pos x hy
    generalize x / y = d at *
    generalize x % y = r at *
    by_cases hd : 0 ≤ d
    · have : d ≤ y * d := by
        have := Int.mul_le_mul_of_nonneg_right (show (1 : Int) ≤ y by omega) hd
        omega
      omega
    · have : y * d ≤ y * (-1) + (d + 1) := by
        have := Int.mul_le_mul_of_nonneg_right (show (1 : Int) ≤ y by omega) (show 0 ≤ -1 - d by omega)
        grind
      omega
  unfold B at *
  rw [Nat.pow_succ]; omega
theorem top_of (f : Nat → Nat) : ∀ n, ∃ i, i ≤ n ∧ ∀ j, j ≤ n → f j ≤ f i
  | 0 => ⟨0, by omega, fun j hj => by rw [show j = 0 by omega]; exact Nat.le_refl _⟩
  | n + 1 => by
    obtain ⟨i, hi, h⟩ := top_of f n
    by_cases c : f i ≤ f (n + 1)
    · refine ⟨n + 1, by omega, fun j hj => ?_⟩
      by_cases e : j = n + 1
      · rw [e]; exact Nat.le_refl _
      · exact Nat.le_trans (h j (by omega)) c
    · refine ⟨i, by omega, fun j hj => ?_⟩
      by_cases e : j = n + 1
      · rw [e]; omega
      · exact h j (by omega)
/-- what a table's line is held to -/
structure Small (L : Line) : Prop where
  n : L.n ≤ 23
  x : ∀ i, i ≤ L.n → -1048575 ≤ L.X i ∧ L.X i ≤ 1048575
  y : ∀ i, i ≤ L.n → -1048575 ≤ L.Y i ∧ L.Y i ≤ 1048575
  p : B L.P 484
namespace Small
variable {L : Line} (Z : Small L)
include Z
theorem h (i : Nat) (hi : i < L.n) : 0 < L.h i ∧ L.h i < 2097152 := by
  have := L.hp i hi
  have a := Z.x i (by omega)
  have b := Z.x (i + 1) (by omega)
  unfold Line.h at *
  omega
theorem hB (i : Nat) (hi : i < L.n) : B (L.h i) 21 := by
  have := Z.h i hi
  unfold B; omega
theorem dP (i : Nat) (hi : i < L.n) : 0 < L.D i ∧ L.D i ≤ L.P := by
  have e : L.D i * L.h i = L.P := L.hD i hi
  have hp := L.hp i hi
  have pp := L.hP
  have d0 : 0 < L.D i := by
    refine Int.not_le.mp fun c => ?_
    have := Int.mul_le_mul_of_nonneg_right c (Int.le_of_lt hp)
    omega
  refine ⟨d0, ?_⟩
  have := Int.mul_le_mul_of_nonneg_left (show (1 : Int) ≤ L.h i by omega) (Int.le_of_lt d0)
  omega
theorem dB (i : Nat) (hi : i < L.n) : B (L.D i) 484 := Z.p.le (by have := Z.dP i hi; omega)
theorem rB (i : Nat) (hi : i < L.n) : B (L.Y (i + 1) - L.Y i) 21 := by
  have a := Z.y i (by omega)
  have b := Z.y (i + 1) (by omega)
  unfold B; omega
theorem kB (i : Nat) (h1 : 1 ≤ i) (hi : i < L.n) : B (L.K i) 506 := by
  have a := (Z.rB i hi).mul (Z.dB i hi)
  have b := (Z.rB (i - 1) (by omega)).mul (Z.dB (i - 1) (by omega))
  rw [show i - 1 + 1 = i by omega] at b
  exact a.sub b
theorem mB : ∀ i, i < L.n → B (M L.h i) (23 * i + 1)
  | 0, _ => by unfold B; simp [M]
  | i + 1, hi => by
    have p1 := L.Mp (i + 1) hi
    have p0 := L.Mp i (by omega)
    have a := mB i (by omega)
    have b : M L.h (i + 1) ≤ 2 * (L.h i + L.h (i + 1)) * M L.h i := by
      by_cases h0 : i = 0
      · subst h0
        simp only [M, Int.mul_one]; exact Int.le_refl _
      · rw [M_step i (by omega)]
        have q := L.Mp (i - 1) (by omega)
        have := Int.mul_nonneg (Int.mul_nonneg (Int.le_of_lt (L.hp i (by omega))) (Int.le_of_lt (L.hp i (by omega)))) (Int.le_of_lt q)
        omega
    have c : B (2 * (L.h i + L.h (i + 1))) 23 := by
      have := Z.h i (by omega); have := Z.h (i + 1) hi
      unfold B; omega
    have d := c.mul a
    refine (d.le ?_).mono (by omega)
    omega
theorem wB : B L.W 507 := (Z.mB (L.n - 1) (by have := L.hn; omega)).mono (by have := Z.n; omega)
theorem sB : ∀ i, i < L.n → B (S L.h L.K i) (507 + 24 * i)
  | 0, _ => by unfold B; simp [S]; exact Nat.two_pow_pos _
  | i + 1, hi => by
    have a := ((Z.mB i (by omega)).mul (Z.kB (i + 1) (by omega) hi)).mono (show 23 * i + 1 + 506 ≤ 528 + 24 * i by omega)
    have b := ((Z.hB i (by omega)).mul (sB i (by omega))).mono (show 21 + (507 + 24 * i) ≤ 528 + 24 * i by omega)
    exact (a.sub b).mono (by omega)
theorem xB (i : Nat) (hi : i ≤ L.n) : B (L.s i) 1013 := by
  obtain ⟨j, hj, top⟩ := top_of (fun i => (L.s i).natAbs) L.n
  refine B.le (x := L.s j) ?_ (top i hi)
  by_cases h0 : j = 0
  · subst h0
    show (0 : Int).natAbs < _
    exact Nat.two_pow_pos _
  by_cases hn : j = L.n
  · have : L.s j = 0 := by rw [hn]; exact x_last L.hn _
    rw [this]
    exact Nat.two_pow_pos _
  have t : L.h (j - 1) * L.s (j - 1) + 2 * (L.h (j - 1) + L.h j) * L.s j + L.h j * L.s (j + 1) = L.K j * L.W := three (K := L.K) L.hp j (by omega) (by omega)
  have kw := (Z.kB j (by omega) (by omega)).mul Z.wB
  have t1 := top (j - 1) (by omega)
  have t2 := top (j + 1) (by omega)
  have p1 := L.hp (j - 1) (by omega)
  have p2 := L.hp j (by omega)
  refine (kw.le (y := L.s j) ?_).mono (by omega)
  rw [← t]
  generalize L.s j = c at *
  generalize L.s (j - 1) = a at *
  generalize L.s (j + 1) = b at *
  generalize L.h (j - 1) = u at *
  generalize L.h j = v at *
  have m1 : (u * a).natAbs ≤ u.natAbs * c.natAbs := by rw [Int.natAbs_mul]; exact Nat.mul_le_mul_left _ t1
  have m2 : (v * b).natAbs ≤ v.natAbs * c.natAbs := by rw [Int.natAbs_mul]; exact Nat.mul_le_mul_left _ t2
  have m3 : (2 * (u + v) * c).natAbs = 2 * (u.natAbs * c.natAbs) + 2 * (v.natAbs * c.natAbs) := by
    rw [Int.natAbs_mul, show (2 * (u + v)).natAbs = 2 * u.natAbs + 2 * v.natAbs by omega]
    rw [Nat.add_mul, Nat.mul_assoc, Nat.mul_assoc]
  have m4 : c.natAbs ≤ u.natAbs * c.natAbs := Nat.le_mul_of_pos_left _ (by omega)
  omega
theorem uB : B L.U 991 := (Z.wB.mul Z.p).mono (by omega)
theorem scB (i : Nat) (hi : i < L.n) : B (L.scale i) 1012 := ((Z.hB i hi).mul Z.uB).mono (by omega)
theorem cdB (i : Nat) (hi : i < L.n) : B (L.cd i) 1014 := (Z.xB (i + 1) (by omega)).sub (Z.xB i (by omega))
theorem ccB (i : Nat) (hi : i < L.n) : B (L.cc i) 1036 := by
  have : B (3 * L.h i) 23 := by have := Z.h i hi; unfold B; omega
  exact (this.mul (Z.xB i (by omega))).mono (by omega)
theorem cbB (i : Nat) (hi : i < L.n) : B (L.cb i) 1058 := by
  have a := (Z.uB.mul (Z.rB i hi)).mono (show 991 + 21 ≤ 1057 by omega)
  have h2 := (Z.hB i hi).mul (Z.hB i hi)
  have s2 : B (2 * L.s i + L.s (i + 1)) 1015 := by
    have := Z.xB i (by omega); have := Z.xB (i + 1) (by omega)
    unfold B at *
    omega
  have b := (h2.mul s2).mono (show 21 + 21 + 1015 ≤ 1057 by omega)
  exact a.sub b
theorem ddB (i : Nat) (hi : i < L.n) (q what : Int) (hq : 1 ≤ q ∧ q ≤ 1048576) : B (L.dden i q what) 1080 := by
  have s := Z.scB i hi
  have qb : B q 21 := by unfold B; omega
  have q3 : B (q ^ 3) 63 := by
    rw [show q ^ 3 = q * q * q by rw [Int.pow_succ, Int.pow_succ, Int.pow_succ, Int.pow_zero, Int.one_mul]]
    exact (qb.mul qb).mul qb
  unfold Line.dden
  split
  · exact (s.mul q3).mono (by omega)
  · split
    · exact ((s.mul qb).mul qb).mono (by omega)
    · exact (s.mul qb).mono (by omega)
theorem yB (i : Nat) (hi : i ≤ L.n) : B (L.Y i) 20 := by have := Z.y i hi; unfold B; omega
theorem dnB (i : Nat) (hi : i < L.n) (p q what : Int) (hp : B p 64) (hq : 1 ≤ q ∧ q ≤ 1048576) : B (L.dnum i p q what) 1300 := by
  have qb : B q 21 := by unfold B; omega
  have xb : B (L.X i) 20 := by have := Z.x i (by omega); unfold B; omega
  have tb : B (p - L.X i * q) 65 := hp.sub ((xb.mul qb).mono (by omega))
  have q3 : B (q ^ 3) 63 := by
    rw [show q ^ 3 = q * q * q by rw [Int.pow_succ, Int.pow_succ, Int.pow_succ, Int.pow_zero, Int.one_mul]]
    exact (qb.mul qb).mul qb
  have a := (Z.yB i (by omega)).mul (Z.scB i hi)
  have b := Z.cbB i hi
  have c := Z.ccB i hi
  have d := Z.cdB i hi
  unfold Line.dnum
  dsimp only
  split
  · have e1 := ((d.mul tb).mono (show 1014 + 65 ≤ 1100 by omega)).add ((c.mul qb).mono (show 1036 + 21 ≤ 1100 by omega))
    have e2 := ((e1.mul tb).mono (show 1101 + 65 ≤ 1200 by omega)).add (((b.mul qb).mul qb).mono (show 1058 + 21 + 21 ≤ 1200 by omega))
    exact (((e2.mul tb).mono (show 1201 + 65 ≤ 1290 by omega)).add ((a.mul q3).mono (show 20 + 1012 + 63 ≤ 1290 by omega))).mono (by omega)
  · split
    · have d3 : B (3 * L.cd i) 1016 := (show B 3 2 by unfold B; decide).mul d |>.mono (by omega)
      have c2 : B (2 * L.cc i) 1038 := (show B 2 2 by unfold B; decide).mul c |>.mono (by omega)
      have e1 := ((d3.mul tb).mono (show 1016 + 65 ≤ 1100 by omega)).add ((c2.mul qb).mono (show 1038 + 21 ≤ 1100 by omega))
      exact (((e1.mul tb).mono (show 1101 + 65 ≤ 1200 by omega)).add (((b.mul qb).mul qb).mono (show 1058 + 21 + 21 ≤ 1200 by omega))).mono (by omega)
    · have d6 : B (6 * L.cd i) 1017 := (show B 6 3 by unfold B; decide).mul d |>.mono (by omega)
      have c2 : B (2 * L.cc i) 1038 := (show B 2 2 by unfold B; decide).mul c |>.mono (by omega)
      exact (((d6.mul tb).mono (show 1017 + 65 ≤ 1100 by omega)).add ((c2.mul qb).mono (show 1038 + 21 ≤ 1100 by omega))).mono (by omega)
end Small
theorem prodB {h : Nat → Int} : ∀ {n : Nat}, (∀ i, i < n → B (h i) 21) → B (prodL h n) (21 * n + 1)
  | 0, _ => by unfold B prodL; decide
  | n + 1, hb => ((prodB fun i hi => hb i (by omega)).mul (hb n (by omega))).mono (by omega)
theorem mem_getD {l : List Int} {i : Nat} (h : i < l.length) : l.getD i 0 ∈ l := by
  rw [show l.getD i 0 = l[i] by simp [List.getD, h]]
  exact List.getElem_mem h
theorem lineSmall {xs zs ys : List Int} (G : Good xs zs ys) {way k : Nat} (hw : way < 2) (hk : k < (tableOf xs zs ys).lines way) : Small (lineOf G way k) := by
  have xl := G.xl
  have zl := G.zl
  have yl := G.yl
  have en : (lineOf G way k).n + 1 = lineN xs zs way := by
    show lineN xs zs way - 1 + 1 = _
    unfold lineN; split <;> omega
  have hx : ∀ i, i ≤ (lineOf G way k).n → -1048575 ≤ (lineOf G way k).X i ∧ (lineOf G way k).X i ≤ 1048575 := by
    intro i hi
    show -1048575 ≤ lineX xs zs way i ∧ lineX xs zs way i ≤ 1048575
    have hi' : i < lineN xs zs way := by omega
    unfold lineN at hi'
    unfold lineX
    by_cases h : way = 0
    · rw [if_pos h] at hi' ⊢; exact G.xb _ (mem_getD hi')
    · rw [if_neg h] at hi' ⊢; exact G.zb _ (mem_getD hi')
  have hN : (lineOf G way k).n ≤ 23 := by
    have : lineN xs zs way ≤ 24 := by unfold lineN; split <;> omega
    omega
  refine ⟨hN, hx, fun i hi => ?_, ?_⟩
  · show -1048575 ≤ lineY xs ys way k i ∧ lineY xs ys way k i ≤ 1048575
    have hi' : i < lineN xs zs way := by omega
    unfold Loft.Table.lines at hk
    unfold lineN at hi'
    unfold lineY
    by_cases h : way = 0
    · rw [if_pos h] at hi' hk ⊢
      have hk' : k < zs.length := hk
      have hb := mul_bound hk' hi'
      rw [Nat.mul_comm zs.length] at hb
      have := G.yb _ (mem_getD (l := ys) (i := k * xs.length + i) (by omega)); omega
    · rw [if_neg h] at hi' hk ⊢
      have hk' : k < xs.length := hk
      have hb := mul_bound hi' hk'
      rw [Nat.mul_comm zs.length] at hb
      have := G.yb _ (mem_getD (l := ys) (i := i * xs.length + k) (by omega)); omega
  · have up := (lineOf G way k).up
    have e : (lineOf G way k).P = prodL (fun i => (lineOf G way k).X (i + 1) - (lineOf G way k).X i) (lineOf G way k).n := rfl
    rw [e]
    refine (prodB (h := fun i => (lineOf G way k).X (i + 1) - (lineOf G way k).X i) (n := (lineOf G way k).n) fun i hi => ?_).mono (by omega)
    have a := hx i (by omega)
    have b := hx (i + 1) (by omega)
    have c := up i hi
    unfold B
    omega
end BM

namespace BM
open Loft LoftBattenSeed
theorem ofLine_len {s : State} {b : Bool} {way k : Int} {f : List Nail → List Piece → Answer} (h : ∀ l ps, (f l ps).length ≤ 9) : (ofLine s b way k f).length ≤ 9 := by
  unfold ofLine
  split
  · show 1 ≤ 9; decide
  split
  · show 1 ≤ 9; decide
  split
  · show 1 ≤ 9; decide
  · exact h _ _
theorem bending_eq (s : State) (way k : Int) : (LoftBattenSeed.step s (.bending way k)).2 = ofLine s false way k fun (_ : List Nail) (ps : List Piece) => tells (number (Loft.bending ps)) := rfl
theorem turns_eq (s : State) (way k : Int) : (LoftBattenSeed.step s (.turns way k)).2 = ofLine s false way k fun (_ : List Nail) (ps : List Piece) => tells [(Loft.turns ps : Int)] := rfl
theorem top_eq (s : State) (way k : Int) : (LoftBattenSeed.step s (.top way k)).2 = ofLine s false way k fun (_ : List Nail) (ps : List Piece) => tells [Loft.top ps] := rfl
theorem ans_len (s : State) (c : LoftBattenSeed.Call) : (LoftBattenSeed.step s c).2.length ≤ 9 := by
  cases c with
  | make xs zs ys =>
    show (match judge xs zs ys with
      | .error f => (s, tells [(f.1 : Int), (f.2 : Int)])
      | .ok T => (some T, tells [0, 0])).2.length ≤ 9
    split
    · show 3 ≤ 9; decide
    · show 3 ≤ 9; decide
  | at_ way k p q what =>
    rw [at_eq]
    refine ofLine_len fun l ps => ?_
    split
    · show 1 ≤ 9; decide
    · show 3 ≤ 9; decide
  | near way k x =>
    rw [near_eq]
    refine ofLine_len fun l ps => ?_
    split
    · show 1 ≤ 9; decide
    · show 2 ≤ 9; decide
  | piece way k i =>
    rw [piece_eq]
    refine ofLine_len fun l ps => ?_
    split
    · show 1 ≤ 9; decide
    · split
      · show 9 ≤ 9; decide
      · show 1 ≤ 9; decide
  | bending way k =>
    rw [bending_eq]
    exact ofLine_len fun l ps => by show 3 ≤ 9; decide
  | turns way k =>
    rw [turns_eq]
    exact ofLine_len fun l ps => by show 2 ≤ 9; decide
  | top way k =>
    rw [top_eq]
    exact ofLine_len fun l ps => by show 2 ≤ 9; decide
/-- a row of calls' form, and the call that it is -/
inductive CallIs : List (List Int) → LoftBattenSeed.Call → Prop where
  | make (x z y : List Int) : CallIs [[1], x, z, y] (.make x z y)
  | at_ (w k p q a : Int) : CallIs [[2, w, k, p, q, a]] (.at_ w k p q a)
  | near (w k x : Int) : CallIs [[3, w, k, x]] (.near w k x)
  | piece (w k i : Int) : CallIs [[4, w, k, i]] (.piece w k i)
  | bending (w k : Int) : CallIs [[5, w, k]] (.bending w k)
  | turns (w k : Int) : CallIs [[6, w, k]] (.turns w k)
  | top (w k : Int) : CallIs [[7, w, k]] (.top w k)
theorem callIs {c : List (List Int)} (h : PyFlat.okCall PyWqlftb.shape c) : ∃ cc, CallIs c cc := by
  rcases call_forms h with ⟨x, z, y, rfl⟩ | ⟨w, k, p, q, a, rfl⟩ | ⟨w, k, x, rfl⟩ | ⟨w, k, i, rfl⟩ | ⟨w, k, rfl⟩ | ⟨w, k, rfl⟩ | ⟨w, k, rfl⟩
  · exact ⟨_, .make x z y⟩
  · exact ⟨_, .at_ w k p q a⟩
  · exact ⟨_, .near w k x⟩
  · exact ⟨_, .piece w k i⟩
  · exact ⟨_, .bending w k⟩
  · exact ⟨_, .turns w k⟩
  · exact ⟨_, .top w k⟩
theorem step_is {c : List (List Int)} {cc : LoftBattenSeed.Call} (h : CallIs c cc) (s : BattenNeutral.State) : BattenNeutral.step s c = LoftBattenSeed.step s cc := by
  cases h <;> rfl
theorem put1_ne {c : List (List Int)} {cc : LoftBattenSeed.Call} (h : CallIs c cc) : ∃ n r, PyFlat.put1 c = n :: r := by
  cases h <;> exact ⟨_, _, rfl⟩
end BM

namespace BM
open Loft LoftBattenSeed
/-! ### the root, cut -/
theorem rootFrom_spec : ∀ (k r n : Nat), r * r ≤ n → n < (r + 2 ^ k) * (r + 2 ^ k) → rootFrom k r n * rootFrom k r n ≤ n ∧ n < (rootFrom k r n + 1) * (rootFrom k r n + 1)
  | 0, r, n, h1, h2 => ⟨h1, by simpa [rootFrom] using h2⟩
  | k + 1, r, n, h1, h2 => by
    unfold rootFrom
    dsimp only
    by_cases c : (r + 2 ^ k) * (r + 2 ^ k) ≤ n
    · rw [if_pos c]
      refine rootFrom_spec k _ n c ?_
      rw [show r + 2 ^ k + 2 ^ k = r + 2 ^ (k + 1) by rw [Nat.pow_succ]; omega]
      exact h2
    · rw [if_neg c]
      exact rootFrom_spec k r n h1 (Nat.lt_of_not_le c)
theorem root_spec (n : Nat) : root n * root n ≤ n ∧ n < (root n + 1) * (root n + 1) := by
  unfold root
  refine rootFrom_spec _ 0 n (by omega) ?_
  rw [Nat.zero_add, ← Nat.pow_add]
  by_cases h0 : n = 0
  · subst h0; exact Nat.two_pow_pos _
  · refine (Nat.log2_lt h0).mp ?_
    omega
theorem ceil_le {q : Rat} {v : Int} : Loft.ceil q ≤ v ↔ q ≤ (v : Rat) := by
  unfold Loft.ceil
  have h : -v ≤ (-q).floor ↔ ((-v : Int) : Rat) ≤ -q := Rat.le_floor_iff
  rw [Rat.intCast_neg] at h
  constructor
  · intro z; have := h.mp (by omega); grind
  · intro z; have := h.mpr (by grind); omega
theorem sq_le {a b : Rat} (h0 : 0 ≤ a) (h : a ≤ b) : a * a ≤ b * b := by
  have h1 : a * a ≤ a * b := Rat.mul_le_mul_of_nonneg_left h h0
  have h2 : a * b ≤ b * b := Rat.mul_le_mul_of_nonneg_right h (Rat.le_trans h0 h)
  exact Rat.le_trans h1 h2
theorem sq_lt {a b : Rat} (h0 : 0 ≤ a) (h : a < b) : a * a < b * b := by
  have h1 : a * a ≤ a * b := Rat.mul_le_mul_of_nonneg_left (Rat.le_of_lt h) h0
  have hb : 0 < b := by grind
  have h2 : a * b < b * b := Rat.mul_lt_mul_of_pos_right h hb
  grind
/-- the least whole number not below al and the root of r -/
theorem above_le {al r : Rat} (hr : 0 ≤ r) (v : Int) : above al r ≤ v ↔ al ≤ (v : Rat) ∧ r ≤ ((v : Rat) - al) * ((v : Rat) - al) := by
  have hfl : 0 ≤ r.floor := Rat.le_floor_iff.mpr (by simpa using hr)
  unfold above
  dsimp only
  obtain ⟨s1, s2⟩ := root_spec r.floor.toNat
  generalize root r.floor.toNat = s at *
  have e1 : ((s : Int) * (s : Int)) ≤ r.floor := by
    have : ((s * s : Nat) : Int) ≤ ((r.floor.toNat : Nat) : Int) := Int.ofNat_le.mpr s1
    rw [Int.natCast_mul] at this; omega
  have e2 : r.floor + 1 ≤ ((s : Int) + 1) * ((s : Int) + 1) := by
    have : ((r.floor.toNat : Nat) : Int) < (((s + 1) * (s + 1) : Nat) : Int) := Int.ofNat_lt.mpr s2
    rw [Int.natCast_mul, Int.natCast_succ] at this; omega
  have q1 : ((s : Int) : Rat) * ((s : Int) : Rat) ≤ r := by
    rw [← Rat.intCast_mul]
    exact Rat.le_trans (Rat.intCast_le_intCast.mpr e1) (Rat.floor_le r)
  have q2 : r < (((s : Int) : Rat) + 1) * (((s : Int) : Rat) + 1) := by
    have := Rat.lt_floor_add_one r
    have z := Rat.intCast_le_intCast.mpr e2
    rw [Rat.intCast_mul] at z
    simp only [Rat.intCast_add, show ((1 : Int) : Rat) = 1 from rfl] at z this
    grind
  have s0 : (0 : Rat) ≤ ((s : Int) : Rat) := Rat.intCast_nonneg.mpr (by omega)
  have c1 : al ≤ ((Loft.ceil al : Int) : Rat) := ceil_le.mp (Int.le_refl _)
  have hm : ((Loft.ceil al + (s : Int) : Int) : Rat) = ((Loft.ceil al : Int) : Rat) + ((s : Int) : Rat) := Rat.intCast_add _ _
  have low : al ≤ (v : Rat) → r ≤ ((v : Rat) - al) * ((v : Rat) - al) → Loft.ceil al + (s : Int) ≤ v := by
    intro h1 h2
    have hs : ((s : Int) : Rat) ≤ (v : Rat) - al := by
      refine Rat.not_lt.mp fun z => ?_
      have := sq_lt (show (0 : Rat) ≤ (v : Rat) - al by grind) z
      grind
    have : Loft.ceil al ≤ v - (s : Int) := ceil_le.mpr (by rw [Rat.intCast_sub]; grind)
    omega
  split
  · rename_i t
    constructor
    · intro z
      have z' := Rat.intCast_le_intCast.mpr z
      rw [hm] at z' t
      have h1 : al ≤ (v : Rat) := by grind
      refine ⟨h1, Rat.le_trans t (sq_le ?_ ?_)⟩ <;> grind
    · rintro ⟨h1, h2⟩
      exact low h1 h2
  · rename_i t
    constructor
    · intro z
      have z' := Rat.intCast_le_intCast.mpr z
      rw [Rat.intCast_add, hm, show ((1 : Int) : Rat) = 1 from rfl] at z'
      have h1 : al ≤ (v : Rat) := by grind
      refine ⟨h1, Rat.le_trans (Rat.le_of_lt q2) (sq_le ?_ ?_)⟩ <;> grind
    · rintro ⟨h1, h2⟩
      have h3 := low h1 h2
      rcases Int.lt_or_eq_of_le h3 with h4 | h4
      · omega
      · rw [h4] at t; exact absurd h2 t
theorem max_le_iff {a b v : Int} : max a b ≤ v ↔ a ≤ v ∧ b ≤ v := by omega
/-- whether a cubic's turn lies between its ends -/
def inside (p : Piece) : Bool :=
  let s := p.c * p.c - 3 * p.b * p.d
  let e := -p.c - 3 * p.d * p.h
  if 0 < p.d then decide (p.c < 0) && (decide (s < p.c * p.c) && (decide (e < 0) || decide (e * e < s))) else (decide (0 < p.c) || decide (p.c * p.c < s)) && (decide (0 < e) && decide (s < e * e))
theorem top_def (p : Piece) : p.top = if p.d = 0 then (if p.c < 0 ∧ 0 < -p.b / (2 * p.c) ∧ -p.b / (2 * p.c) < p.h then max (max (Loft.ceil p.a) (Loft.ceil (p.value p.h))) (Loft.ceil (p.a - p.b * p.b / (4 * p.c))) else max (Loft.ceil p.a) (Loft.ceil (p.value p.h)))
    else if 0 < p.c * p.c - 3 * p.b * p.d ∧ inside p = true then
      max (max (Loft.ceil p.a) (Loft.ceil (p.value p.h))) (above (p.a - p.b * p.c / (9 * p.d) + 2 * (p.c * p.c - 3 * p.b * p.d) / (27 * p.d * p.d) * p.c) (2 * (p.c * p.c - 3 * p.b * p.d) / (27 * p.d * p.d) * (2 * (p.c * p.c - 3 * p.b * p.d) / (27 * p.d * p.d)) * (p.c * p.c - 3 * p.b * p.d)))
    else max (Loft.ceil p.a) (Loft.ceil (p.value p.h)) := rfl
theorem top_le (p : Piece) (v : Int) : p.top ≤ v ↔ (p.a ≤ (v : Rat) ∧ p.value p.h ≤ (v : Rat)) ∧
    (p.d = 0 → p.c < 0 ∧ 0 < -p.b / (2 * p.c) ∧ -p.b / (2 * p.c) < p.h → p.a - p.b * p.b / (4 * p.c) ≤ (v : Rat)) ∧
    (p.d ≠ 0 → 0 < p.c * p.c - 3 * p.b * p.d ∧ inside p = true →
      p.a - p.b * p.c / (9 * p.d) + 2 * (p.c * p.c - 3 * p.b * p.d) / (27 * p.d * p.d) * p.c ≤ (v : Rat) ∧
      2 * (p.c * p.c - 3 * p.b * p.d) / (27 * p.d * p.d) * (2 * (p.c * p.c - 3 * p.b * p.d) / (27 * p.d * p.d)) * (p.c * p.c - 3 * p.b * p.d) ≤
        ((v : Rat) - (p.a - p.b * p.c / (9 * p.d) + 2 * (p.c * p.c - 3 * p.b * p.d) / (27 * p.d * p.d) * p.c)) * ((v : Rat) - (p.a - p.b * p.c / (9 * p.d) + 2 * (p.c * p.c - 3 * p.b * p.d) / (27 * p.d * p.d) * p.c))) := by
  have ends : max (Loft.ceil p.a) (Loft.ceil (p.value p.h)) ≤ v ↔ p.a ≤ (v : Rat) ∧ p.value p.h ≤ (v : Rat) := by
    rw [max_le_iff, ceil_le, ceil_le]
  rw [top_def]
  by_cases hd : p.d = 0
  · rw [if_pos hd]
    by_cases hc : p.c < 0 ∧ 0 < -p.b / (2 * p.c) ∧ -p.b / (2 * p.c) < p.h
    · rw [if_pos hc, max_le_iff, ends, ceil_le]
      exact ⟨fun h => ⟨h.1, fun _ _ => h.2, fun z => absurd hd z⟩, fun h => ⟨h.1, h.2.1 hd hc⟩⟩
    · rw [if_neg hc, ends]
      exact ⟨fun h => ⟨h, fun _ z => absurd z hc, fun z => absurd hd z⟩, fun h => h.1⟩
  · rw [if_neg hd]
    by_cases hs : 0 < p.c * p.c - 3 * p.b * p.d ∧ inside p = true
    · rw [if_pos hs, max_le_iff, ends, above_le]
      · exact ⟨fun h => ⟨h.1, fun z => absurd z hd, fun _ _ => h.2⟩, fun h => ⟨h.1, h.2.2 hd hs⟩⟩
      · have s0 := Rat.le_of_lt hs.1
        generalize 2 * (p.c * p.c - 3 * p.b * p.d) / (27 * p.d * p.d) = be
        refine Rat.mul_nonneg ?_ s0
        by_cases z : 0 ≤ be
        · exact Rat.mul_nonneg z z
        · have : 0 ≤ -be := by grind
          have := Rat.mul_nonneg this this
          grind
    · rw [if_neg hs, ends]
      exact ⟨fun h => ⟨h, fun z => absurd z hd, fun _ z => absurd z hs⟩, fun h => h.1⟩
theorem greatest_le : ∀ {l : List Int} {v : Int}, l ≠ [] → (greatest l ≤ v ↔ ∀ x ∈ l, x ≤ v)
  | [], v, h => absurd rfl h
  | [x], v, _ => by simp [greatest]
  | x :: y :: r, v, _ => by
    have ih := greatest_le (l := y :: r) (v := v) (by simp)
    rw [greatest]
    · rw [max_le_iff, ih]
      simp
    · simp
end BM

namespace BM
open Loft LoftBattenSeed
theorem div_lt_div_int {a b m : Int} (hm : 0 < m) : ((a : Rat) / (m : Rat) < (b : Rat) / (m : Rat)) ↔ a < b := by
  have mp : (0 : Rat) < m := Rat.intCast_pos.mpr hm
  have nm := Line.ne0 hm
  rw [Rat.div_lt_iff mp, Rat.div_mul_cancel nm, Rat.intCast_lt_intCast]
theorem div_le_div_int {a b m : Int} (hm : 0 < m) : ((a : Rat) / (m : Rat) ≤ (b : Rat) / (m : Rat)) ↔ a ≤ b := by
  have mp : (0 : Rat) < m := Rat.intCast_pos.mpr hm
  have nm := Line.ne0 hm
  rw [rdiv_mul mp, Rat.div_mul_cancel nm, Rat.intCast_le_intCast]
theorem zero_div_int (m : Int) : (0 : Rat) = ((0 : Int) : Rat) / (m : Rat) := by simp [Rat.div_def]
theorem div_pos_int {a m : Int} (hm : 0 < m) : (0 : Rat) < (a : Rat) / (m : Rat) ↔ 0 < a := by
  rw [zero_div_int m, div_lt_div_int hm]
theorem div_neg_int {a m : Int} (hm : 0 < m) : (a : Rat) / (m : Rat) < 0 ↔ a < 0 := by
  rw [zero_div_int m, div_lt_div_int hm]
theorem sqdiv {w m : Rat} (hm : m ≠ 0) : w / m * (w / m) = w * w / (m * m) := by grind
namespace Line
variable (L : Line)
/-- the cubic's turns: the discriminant over four, the slope's half at the end -/
def ss (i : Nat) : Int := L.cc i * L.cc i - 3 * L.cb i * L.cd i
def ee (i : Nat) : Int := -L.cc i - 3 * L.cd i * L.h i
def ins (i : Nat) : Bool :=
  if 0 < L.cd i then decide (L.cc i < 0) && (decide (L.ss i < L.cc i * L.cc i) && (decide (L.ee i < 0) || decide (L.ee i * L.ee i < L.ss i)))
  else (decide (0 < L.cc i) || decide (L.cc i * L.cc i < L.ss i)) && (decide (0 < L.ee i) && decide (L.ss i < L.ee i * L.ee i))
/-- how far v lies above the middle between the cubic's two turns' values, times 27 cd² scale -/
def ww (i : Nat) (v : Int) : Int := 27 * (L.cd i * L.cd i) * L.scale i * v - (27 * (L.Y i * L.scale i) * (L.cd i * L.cd i) - 3 * L.cb i * L.cc i * L.cd i + 2 * L.ss i * L.cc i)
section
variable {i : Nat} (hi : i < L.n)
include hi
theorem sqp : 0 < L.scale i * L.scale i := Int.mul_pos (L.scp i hi) (L.scp i hi)
theorem ssQ : (L.pc i).c * (L.pc i).c - 3 * (L.pc i).b * (L.pc i).d = (L.ss i : Rat) / ((L.scale i * L.scale i : Int) : Rat) := by
  have n := ne0 (L.scp i hi)
  rw [L.pcc i hi, L.pb i hi, L.pd i hi]
  unfold ss
  simp only [Rat.intCast_sub, Rat.intCast_mul, show ((3 : Int) : Rat) = 3 from rfl]
  grind
theorem eeQ : -(L.pc i).c - 3 * (L.pc i).d * (L.pc i).h = (L.ee i : Rat) / (L.scale i : Rat) := by
  have n := ne0 (L.scp i hi)
  rw [L.pcc i hi, L.pd i hi]
  show _ - 3 * _ * (L.h i : Rat) = _
  unfold ee
  simp only [Rat.intCast_sub, Rat.intCast_mul, Rat.intCast_neg, show ((3 : Int) : Rat) = 3 from rfl]
  grind
theorem sqQ (a : Int) : (a : Rat) / (L.scale i : Rat) * ((a : Rat) / (L.scale i : Rat)) = ((a * a : Int) : Rat) / ((L.scale i * L.scale i : Int) : Rat) := by
  have n := ne0 (L.scp i hi)
  simp only [Rat.intCast_mul]
  grind
theorem insQ : inside (L.pc i) = L.ins i := by
  have sp := L.scp i hi
  have qp := L.sqp hi
  unfold inside ins
  dsimp only
  rw [L.ssQ hi, L.eeQ hi, L.pcc i hi, L.sqQ hi, L.sqQ hi, L.pd i hi]
  simp only [div_pos_int sp, div_neg_int sp, div_lt_div_int qp]
theorem endQ : (L.pc i).value (L.pc i).h = (L.Y (i + 1) : Rat) := by
  have n := ne0 (L.hp i hi)
  show (L.pc i).a + (L.h i : Rat) * ((L.pc i).b + (L.h i : Rat) * ((L.pc i).c + (L.h i : Rat) * (L.pc i).d)) = _
  exact mv n
theorem dQ : (L.pc i).d = 0 ↔ L.cd i = 0 := by
  have n := ne0 (L.scp i hi)
  rw [L.pd i hi]
  constructor
  · intro h
    have : (L.cd i : Rat) = 0 := by grind
    exact Rat.intCast_inj.mp this
  · intro h; rw [h]; simp [Rat.div_def]
theorem flatQ (hc : L.cc i < 0) (v : Int) : ((L.pc i).a - (L.pc i).b * (L.pc i).b / (4 * (L.pc i).c) ≤ (v : Rat)) ↔ L.cb i * L.cb i ≤ 4 * L.cc i * (L.Y i * L.scale i - v * L.scale i) := by
  have n := ne0 (L.scp i hi)
  have sp : (0 : Rat) < (L.scale i : Rat) := Rat.intCast_pos.mpr (L.scp i hi)
  have cn : (L.cc i : Rat) < 0 := by
    have := Rat.intCast_lt_intCast.mpr hc
    simpa using this
  have nc : (L.cc i : Rat) ≠ 0 := by intro e; rw [e] at cn; exact Rat.lt_irrefl cn
  rw [L.pb i hi, L.pcc i hi]
  have e1 : (L.pc i).a - (L.cb i : Rat) / (L.scale i : Rat) * ((L.cb i : Rat) / (L.scale i : Rat)) / (4 * ((L.cc i : Rat) / (L.scale i : Rat))) = (L.Y i : Rat) - (L.cb i : Rat) * (L.cb i : Rat) / (4 * (L.cc i : Rat) * (L.scale i : Rat)) := by
    show (L.Y i : Rat) - _ = _
    grind
  rw [e1, ← Rat.intCast_le_intCast]
  simp only [Rat.intCast_sub, Rat.intCast_mul, show ((4 : Int) : Rat) = 4 from rfl]
  have mp : (0 : Rat) < -(4 * (L.cc i : Rat) * (L.scale i : Rat)) := by
    have : 0 < (-(L.cc i : Rat)) * (L.scale i : Rat) := Rat.mul_pos (by grind) sp
    grind
  have e2 : (L.cb i : Rat) * (L.cb i : Rat) / (4 * (L.cc i : Rat) * (L.scale i : Rat)) = -((L.cb i : Rat) * (L.cb i : Rat) / (-(4 * (L.cc i : Rat) * (L.scale i : Rat)))) := by grind
  rw [e2]
  have e3 : (L.Y i : Rat) - -((L.cb i : Rat) * (L.cb i : Rat) / (-(4 * (L.cc i : Rat) * (L.scale i : Rat)))) ≤ (v : Rat) ↔ (L.cb i : Rat) * (L.cb i : Rat) / (-(4 * (L.cc i : Rat) * (L.scale i : Rat))) ≤ (v : Rat) - (L.Y i : Rat) := by
    constructor <;> intro <;> grind
  rw [e3, rdiv_mul mp]
  constructor <;> intro <;> grind
theorem flatIn (hc : L.cc i < 0) : (0 < -(L.pc i).b / (2 * (L.pc i).c) ∧ -(L.pc i).b / (2 * (L.pc i).c) < (L.pc i).h) ↔ (0 < L.cb i ∧ L.cb i + 2 * L.cc i * L.h i < 0) := by
  have n := ne0 (L.scp i hi)
  have cn : (L.cc i : Rat) < 0 := by
    have := Rat.intCast_lt_intCast.mpr hc
    simpa using this
  have nc : (L.cc i : Rat) ≠ 0 := by intro e; rw [e] at cn; exact Rat.lt_irrefl cn
  have mp : (0 : Int) < -(2 * L.cc i) := by omega
  have e1 : -(L.pc i).b / (2 * (L.pc i).c) = (L.cb i : Rat) / ((-(2 * L.cc i) : Int) : Rat) := by
    rw [L.pb i hi, L.pcc i hi]
    simp only [Rat.intCast_neg, Rat.intCast_mul, show ((2 : Int) : Rat) = 2 from rfl]
    grind
  rw [e1, div_pos_int mp, Rat.div_lt_iff (Rat.intCast_pos.mpr mp)]
  show _ ∧ _ < (L.h i : Rat) * _ ↔ _
  rw [← Rat.intCast_mul, Rat.intCast_lt_intCast]
  have : L.h i * -(2 * L.cc i) = -(2 * L.cc i * L.h i) := by grind
  rw [this]
  omega
theorem turnQ (hd : L.cd i ≠ 0) (v : Int) :
    ((L.pc i).a - (L.pc i).b * (L.pc i).c / (9 * (L.pc i).d) + 2 * ((L.pc i).c * (L.pc i).c - 3 * (L.pc i).b * (L.pc i).d) / (27 * (L.pc i).d * (L.pc i).d) * (L.pc i).c ≤ (v : Rat) ∧
      2 * ((L.pc i).c * (L.pc i).c - 3 * (L.pc i).b * (L.pc i).d) / (27 * (L.pc i).d * (L.pc i).d) * (2 * ((L.pc i).c * (L.pc i).c - 3 * (L.pc i).b * (L.pc i).d) / (27 * (L.pc i).d * (L.pc i).d)) * ((L.pc i).c * (L.pc i).c - 3 * (L.pc i).b * (L.pc i).d) ≤
        ((v : Rat) - ((L.pc i).a - (L.pc i).b * (L.pc i).c / (9 * (L.pc i).d) + 2 * ((L.pc i).c * (L.pc i).c - 3 * (L.pc i).b * (L.pc i).d) / (27 * (L.pc i).d * (L.pc i).d) * (L.pc i).c)) * ((v : Rat) - ((L.pc i).a - (L.pc i).b * (L.pc i).c / (9 * (L.pc i).d) + 2 * ((L.pc i).c * (L.pc i).c - 3 * (L.pc i).b * (L.pc i).d) / (27 * (L.pc i).d * (L.pc i).d) * (L.pc i).c))) ↔
    0 ≤ L.ww i v ∧ 4 * (L.ss i * L.ss i * L.ss i) ≤ L.ww i v * L.ww i v := by
  have n := ne0 (L.scp i hi)
  have sp : (0 : Rat) < (L.scale i : Rat) := Rat.intCast_pos.mpr (L.scp i hi)
  have nd : (L.cd i : Rat) ≠ 0 := fun e => hd (Rat.intCast_inj.mp e)
  have mI : 0 < 27 * (L.cd i * L.cd i) * L.scale i := by
    have : 0 < L.cd i * L.cd i := by
      rcases Int.lt_or_gt_of_ne hd with h | h
      · exact Int.mul_pos_of_neg_of_neg h h
      · exact Int.mul_pos h h
    exact Int.mul_pos (by omega) (L.scp i hi)
  have al : (v : Rat) - ((L.pc i).a - (L.pc i).b * (L.pc i).c / (9 * (L.pc i).d) + 2 * ((L.pc i).c * (L.pc i).c - 3 * (L.pc i).b * (L.pc i).d) / (27 * (L.pc i).d * (L.pc i).d) * (L.pc i).c) = (L.ww i v : Rat) / ((27 * (L.cd i * L.cd i) * L.scale i : Int) : Rat) := by
    rw [L.ssQ hi, L.pb i hi, L.pcc i hi, L.pd i hi]
    show (v : Rat) - ((L.Y i : Rat) - _ + _) = _
    unfold ww
    simp only [Rat.intCast_sub, Rat.intCast_mul, Rat.intCast_add, show ((27 : Int) : Rat) = 27 from rfl, show ((2 : Int) : Rat) = 2 from rfl, show ((3 : Int) : Rat) = 3 from rfl]
    generalize (L.ss i : Rat) = S
    generalize (L.cd i : Rat) = D at *
    generalize (L.scale i : Rat) = q at *
    generalize (L.cb i : Rat) = B
    generalize (L.cc i : Rat) = C
    generalize (L.Y i : Rat) = A
    generalize (v : Rat) = w
    grind
  have be : 2 * ((L.pc i).c * (L.pc i).c - 3 * (L.pc i).b * (L.pc i).d) / (27 * (L.pc i).d * (L.pc i).d) * (2 * ((L.pc i).c * (L.pc i).c - 3 * (L.pc i).b * (L.pc i).d) / (27 * (L.pc i).d * (L.pc i).d)) * ((L.pc i).c * (L.pc i).c - 3 * (L.pc i).b * (L.pc i).d) =
      ((4 * (L.ss i * L.ss i * L.ss i) : Int) : Rat) / ((27 * (L.cd i * L.cd i) * L.scale i * (27 * (L.cd i * L.cd i) * L.scale i) : Int) : Rat) := by
    rw [L.ssQ hi, L.pd i hi]
    simp only [Rat.intCast_mul, show ((27 : Int) : Rat) = 27 from rfl, show ((4 : Int) : Rat) = 4 from rfl]
    generalize (L.ss i : Rat) = S
    generalize (L.cd i : Rat) = D at *
    generalize (L.scale i : Rat) = q at *
    have e : 2 * (S / (q * q)) / (27 * (D / q) * (D / q)) = 2 * S / (27 * (D * D)) := by grind
    rw [e]
    grind
  rw [al, be]
  have sq : (L.ww i v : Rat) / ((27 * (L.cd i * L.cd i) * L.scale i : Int) : Rat) * ((L.ww i v : Rat) / ((27 * (L.cd i * L.cd i) * L.scale i : Int) : Rat)) = ((L.ww i v * L.ww i v : Int) : Rat) / ((27 * (L.cd i * L.cd i) * L.scale i * (27 * (L.cd i * L.cd i) * L.scale i) : Int) : Rat) := by
    rw [Rat.intCast_mul (L.ww i v), Rat.intCast_mul (27 * (L.cd i * L.cd i) * L.scale i)]
    exact sqdiv (ne0 mI)
  rw [sq, div_le_div_int (Int.mul_pos mI mI)]
  have lhs : (L.pc i).a - (L.pc i).b * (L.pc i).c / (9 * (L.pc i).d) + 2 * ((L.pc i).c * (L.pc i).c - 3 * (L.pc i).b * (L.pc i).d) / (27 * (L.pc i).d * (L.pc i).d) * (L.pc i).c ≤ (v : Rat) ↔ (0 : Rat) ≤ (L.ww i v : Rat) / ((27 * (L.cd i * L.cd i) * L.scale i : Int) : Rat) := by
    rw [← al]
    constructor <;> intro <;> grind
  rw [lhs, zero_div_int (27 * (L.cd i * L.cd i) * L.scale i), div_le_div_int mI]
/-- the least whole number that cubic i exceeds nowhere, by whole numbers alone -/
theorem pc_top_le (v : Int) : (L.pc i).top ≤ v ↔ (L.Y i ≤ v ∧ L.Y (i + 1) ≤ v) ∧
    (L.cd i = 0 → L.cc i < 0 ∧ 0 < L.cb i ∧ L.cb i + 2 * L.cc i * L.h i < 0 → L.cb i * L.cb i ≤ 4 * L.cc i * (L.Y i * L.scale i - v * L.scale i)) ∧
    (L.cd i ≠ 0 → 0 < L.ss i ∧ L.ins i = true → 0 ≤ L.ww i v ∧ 4 * (L.ss i * L.ss i * L.ss i) ≤ L.ww i v * L.ww i v) := by
  rw [top_le, L.endQ hi, L.insQ hi]
  have a1 : (L.pc i).a ≤ (v : Rat) ↔ L.Y i ≤ v := Rat.intCast_le_intCast
  have a2 : (L.Y (i + 1) : Rat) ≤ (v : Rat) ↔ L.Y (i + 1) ≤ v := Rat.intCast_le_intCast
  have cN : (L.pc i).c < 0 ↔ L.cc i < 0 := by rw [L.pcc i hi, div_neg_int (L.scp i hi)]
  have sP : 0 < (L.pc i).c * (L.pc i).c - 3 * (L.pc i).b * (L.pc i).d ↔ 0 < L.ss i := by rw [L.ssQ hi, div_pos_int (L.sqp hi)]
  rw [a1, a2]
  refine and_congr Iff.rfl (and_congr ?_ ?_)
  · constructor
    · rintro h hd ⟨hc, hb⟩
      exact (L.flatQ hi hc v).mp (h ((L.dQ hi).mpr hd) ⟨cN.mpr hc, (L.flatIn hi hc).mpr hb⟩)
    · rintro h hd ⟨hc, hb⟩
      have hc' := cN.mp hc
      exact (L.flatQ hi hc' v).mpr (h ((L.dQ hi).mp hd) ⟨hc', (L.flatIn hi hc').mp hb⟩)
  · constructor
    · rintro h hd ⟨hs, hb⟩
      exact (L.turnQ hi hd v).mp (h (fun e => hd ((L.dQ hi).mp e)) ⟨sP.mpr hs, hb⟩)
    · rintro h hd ⟨hs, hb⟩
      have hd' : L.cd i ≠ 0 := fun e => hd ((L.dQ hi).mpr e)
      exact (L.turnQ hi hd' v).mpr (h hd' ⟨sP.mp hs, hb⟩)
end
theorem top_le (v : Int) : Loft.top (seg L.pc 0 L.n) ≤ v ↔ ∀ i, i < L.n → (L.pc i).top ≤ v := by
  unfold Loft.top
  have ne : (seg L.pc 0 L.n).map Piece.top ≠ [] := by
    intro e
    have := congrArg List.length e
    rw [List.length_map, seg_length] at this
    have := L.hn
    simp at *
    omega
  rw [greatest_le ne, seg_map]
  constructor
  · intro h i hi
    refine h _ (List.mem_of_getElem? (i := i) ?_)
    rw [seg_get, if_pos hi, Nat.zero_add]
  · intro h x hx
    obtain ⟨i, hi⟩ := List.mem_iff_getElem?.mp hx
    rw [seg_get] at hi
    by_cases c : i < L.n
    · rw [if_pos c, Nat.zero_add] at hi
      rw [← Option.some.inj hi]
      exact h i c
    · rw [if_neg c] at hi; cases hi
end Line
end BM

namespace BM
open Loft LoftBattenSeed
theorem seg_snoc' {α : Type} (f : Nat → α) : ∀ (k i : Nat), seg f i (k + 1) = seg f i k ++ [f (i + k)]
  | 0, i => rfl
  | k + 1, i => by
    show f i :: seg f (i + 1) (k + 1) = f i :: (seg f (i + 1) k ++ [f (i + (k + 1))])
    rw [seg_snoc' f k (i + 1), show i + 1 + k = i + (k + 1) by omega]
theorem sumQ_snoc : ∀ (l : List Rat) (x : Rat), sumQ (l ++ [x]) = sumQ l + x
  | [], x => by show x + 0 = 0 + x; rw [Rat.add_zero, Rat.zero_add]
  | y :: l, x => by
    show y + sumQ (l ++ [x]) = y + sumQ l + x
    rw [sumQ_snoc l x, Rat.add_assoc]
def changesI : List Int → Nat
  | x :: y :: r => changesI (y :: r) + if x * y < 0 then 1 else 0
  | _ => 0
namespace Line
variable (L : Line)
/-- the sum over the cubics of gap times the sixths' squares -/
def bsum : Nat → Int
  | 0 => 0
  | k + 1 => bsum k + L.h k * (L.s k * L.s k + L.s k * L.s (k + 1) + L.s (k + 1) * L.s (k + 1))
theorem pcBend {i : Nat} (hi : i < L.n) : (L.pc i).bending = ((12 * (L.h i * (L.s i * L.s i + L.s i * L.s (i + 1) + L.s (i + 1) * L.s (i + 1))) : Int) : Rat) / ((L.U * L.U : Int) : Rat) := by
  have nU := ne0 L.Up
  have nh := ne0 (L.hp i hi)
  show (L.h i : Rat) * (4 * L.c i * L.c i + (L.h i : Rat) * (12 * L.c i * ((L.c (i + 1) - L.c i) / (3 * (L.h i : Rat))) + (L.h i : Rat) * (12 * ((L.c (i + 1) - L.c i) / (3 * (L.h i : Rat))) * ((L.c (i + 1) - L.c i) / (3 * (L.h i : Rat)))))) = _
  unfold c
  simp only [Rat.intCast_mul, Rat.intCast_add, show ((12 : Int) : Rat) = 12 from rfl]
  generalize (L.s i : Rat) = x
  generalize (L.s (i + 1) : Rat) = y
  generalize (L.h i : Rat) = h at *
  generalize (L.U : Rat) = U at *
  have e : (3 * y / U - 3 * x / U) / (3 * h) = (y - x) / U / h := by grind
  rw [e]
  have e2 : h * (12 * (3 * x / U) * ((y - x) / U / h) + h * (12 * ((y - x) / U / h) * ((y - x) / U / h))) = 36 * x * (y - x) / (U * U) + 12 * (y - x) * (y - x) / (U * U) := by grind
  rw [e2]
  grind
theorem bend_eq : ∀ k, k ≤ L.n → sumQ ((seg L.pc 0 k).map Piece.bending) = ((12 * L.bsum k : Int) : Rat) / ((L.U * L.U : Int) : Rat)
  | 0, _ => by
    show (0 : Rat) = ((12 * 0 : Int) : Rat) / _
    simp [Rat.div_def]
  | k + 1, hk => by
    rw [seg_snoc', List.map_append, List.map_singleton, sumQ_snoc, bend_eq k (by omega), Nat.zero_add, L.pcBend (by omega)]
    have nU := ne0 (Int.mul_pos L.Up L.Up)
    rw [show 12 * L.bsum (k + 1) = 12 * L.bsum k + 12 * (L.h k * (L.s k * L.s k + L.s k * L.s (k + 1) + L.s (k + 1) * L.s (k + 1))) by show 12 * (L.bsum k + _) = _; rw [Int.mul_add]]
    rw [Rat.intCast_add]
    grind
theorem bending_eq : Loft.bending (seg L.pc 0 L.n) = ((12 * L.bsum L.n : Int) : Rat) / ((L.U * L.U : Int) : Rat) := L.bend_eq L.n (Nat.le_refl _)
theorem c_zero (i : Nat) : L.c i = 0 ↔ L.s i = 0 := by
  have nU := ne0 L.Up
  unfold c
  constructor
  · intro h
    have : (L.s i : Rat) = 0 := by grind
    exact Rat.intCast_inj.mp this
  · intro h; rw [h]; simp [Rat.div_def]
end Line
theorem scaled_neg {x y U : Int} (hU : 0 < U) : (3 * (x : Rat) / (U : Rat)) * (3 * (y : Rat) / (U : Rat)) < 0 ↔ x * y < 0 := by
  have e : (3 * (x : Rat) / (U : Rat)) * (3 * (y : Rat) / (U : Rat)) = ((9 * (x * y) : Int) : Rat) / ((U * U : Int) : Rat) := by
    have nU := Line.ne0 hU
    simp only [Rat.intCast_mul, show ((9 : Int) : Rat) = 9 from rfl]
    grind
  rw [e, div_neg_int (Int.mul_pos hU hU)]
  omega
theorem changes_eq {U : Int} (hU : 0 < U) : ∀ l : List Int, changes (l.map fun (z : Int) => 3 * (z : Rat) / (U : Rat)) = changesI l
  | [] => rfl
  | [_] => rfl
  | x :: y :: r => by
    have ih := changes_eq hU (y :: r)
    show changes ((y :: r).map fun (z : Int) => 3 * (z : Rat) / (U : Rat)) + (if (3 * (x : Rat) / (U : Rat)) * (3 * (y : Rat) / (U : Rat)) < 0 then 1 else 0) = changesI (y :: r) + if x * y < 0 then 1 else 0
    rw [ih]
    by_cases c : x * y < 0
    · rw [if_pos c, if_pos ((scaled_neg hU).mpr c)]
    · rw [if_neg c, if_neg (fun z => c ((scaled_neg hU).mp z))]
namespace Line
variable (L : Line)
theorem turns_eq : Loft.turns (seg L.pc 0 L.n) = changesI ((seg L.s 0 L.n).filter fun z => z != 0) := by
  unfold Loft.turns
  have e1 : (seg L.pc 0 L.n).map (fun p : Piece => p.c) = (seg L.s 0 L.n).map fun (z : Int) => 3 * (z : Rat) / (L.U : Rat) := by
    rw [seg_map, seg_map]; rfl
  rw [e1, List.filter_map]
  have e2 : ((fun x : Rat => x != 0) ∘ fun z : Int => 3 * (z : Rat) / (L.U : Rat)) = fun z => z != 0 := by
    funext z
    have nU := ne0 L.Up
    show (3 * (z : Rat) / (L.U : Rat) != 0) = (z != 0)
    by_cases h : z = 0
    · subst h; simp [Rat.div_def]
    · have : 3 * (z : Rat) / (L.U : Rat) ≠ 0 := by
        intro e
        have : (z : Rat) = 0 := by grind
        exact h (Rat.intCast_inj.mp this)
      rw [bne_iff_ne.mpr this, bne_iff_ne.mpr h]
  rw [e2, changes_eq L.Up]
end Line
section
variable {xs zs ys : List Int} (G : Good xs zs ys) {way k : Int}
theorem bending_ok (hw : way = 0 ∨ way = 1) (hk : 0 ≤ k ∧ k < linesI xs zs way) :
    (LoftBattenSeed.step (some (tableOf xs zs ys)) (.bending way k)).2 = 0 :: lowI (12 * (lineOf G way.toNat k.toNat).bsum (lineOf G way.toNat k.toNat).n) ((lineOf G way.toNat k.toNat).U * (lineOf G way.toNat k.toNat).U) := by
  rw [bending_eq, ofLine_ok G rfl hw hk, Line.batten_eq, Line.bending_eq, number_div _ _ (Int.mul_pos (Line.Up _) (Line.Up _))]
  rfl
theorem turns_ok (hw : way = 0 ∨ way = 1) (hk : 0 ≤ k ∧ k < linesI xs zs way) :
    (LoftBattenSeed.step (some (tableOf xs zs ys)) (.turns way k)).2 = [0, (changesI ((seg (lineOf G way.toNat k.toNat).s 0 (lineOf G way.toNat k.toNat).n).filter fun z => z != 0) : Int)] := by
  rw [turns_eq, ofLine_ok G rfl hw hk, Line.batten_eq, Line.turns_eq]
  rfl
theorem top_ok (hw : way = 0 ∨ way = 1) (hk : 0 ≤ k ∧ k < linesI xs zs way) :
    (LoftBattenSeed.step (some (tableOf xs zs ys)) (.top way k)).2 = [0, Loft.top (seg (lineOf G way.toNat k.toNat).pc 0 (lineOf G way.toNat k.toNat).n)] := by
  rw [top_eq, ofLine_ok G rfl hw hk, Line.batten_eq]
  rfl
/-- a whole number is the top if it is above all, and none below it is -/
theorem top_is {L : Line} {t : Int} (h : ∀ v : Int, t ≤ v ↔ ∀ i, i < L.n → (L.pc i).top ≤ v) : Loft.top (seg L.pc 0 L.n) = t := by
  have a : Loft.top (seg L.pc 0 L.n) ≤ t := (L.top_le t).mpr ((h t).mp (Int.le_refl t))
  have b : t ≤ Loft.top (seg L.pc 0 L.n) := (h _).mpr ((L.top_le _).mp (Int.le_refl _))
  omega
end
end BM

namespace BM
/-! ### the least whole number whose square is not below n -/
theorem newton {n r q s : Int} (hr : 0 < r) (hq : n < (q + 1) * r) (hs : r + q < 2 * s + 2) : n < (s + 1) * (s + 1) ∨ s + 1 ≤ 0 := by
  by_cases c : s + 1 ≤ 0
  · exact .inr c
  refine .inl ?_
  have h1 : r + q + 1 ≤ 2 * (s + 1) := by omega
  by_cases c2 : 0 ≤ r + q + 1
  · have h2 : (r + q + 1) * (r + q + 1) ≤ (2 * (s + 1)) * (2 * (s + 1)) := Int.mul_le_mul h1 h1 c2 (by omega)
    have h3 : 0 ≤ (r - (q + 1)) * (r - (q + 1)) := by
      rcases Int.le_total 0 (r - (q + 1)) with z | z
      · exact Int.mul_nonneg z z
      · exact Int.mul_nonneg_of_nonpos_of_nonpos z z
    have h4 : (r + q + 1) * (r + q + 1) = (r - (q + 1)) * (r - (q + 1)) + 4 * ((q + 1) * r) := by grind
    have h5 : (2 * (s + 1)) * (2 * (s + 1)) = 4 * ((s + 1) * (s + 1)) := by grind
    omega
  · have h2 : (q + 1) * r ≤ 0 := Int.mul_nonpos_of_nonpos_of_nonneg (by omega) (by omega)
    have h3 : 0 ≤ (s + 1) * (s + 1) := Int.mul_nonneg (by omega) (by omega)
    omega
theorem newton_step {n r : Int} (hn : 1 ≤ n) (hr : 1 ≤ r) : 1 ≤ (r + n / r) / 2 ∧ n < ((r + n / r) / 2 + 1) * ((r + n / r) / 2 + 1) := by
  have e := Int.mul_ediv_add_emod n r
  have m0 := Int.emod_nonneg n (by omega : r ≠ 0)
  have m1 := Int.emod_lt_of_pos n (by omega : 0 < r)
  have q0 : 0 ≤ n / r := Int.ediv_nonneg (by omega) (by omega)
  have h1 : 1 ≤ (r + n / r) / 2 := by
    by_cases c : r = 1
    · subst c
      rw [Int.ediv_one]; omega
    · omega
  refine ⟨h1, ?_⟩
  have hq : n < (n / r + 1) * r := by
    rw [Int.add_mul, Int.one_mul, Int.mul_comm (n / r) r]; omega
  have := newton (n := n) (r := r) (q := n / r) (s := (r + n / r) / 2) (by omega) hq (by omega)
  omega
theorem newton_end {n r : Int} (hr : 1 ≤ r) (h : ¬ (r + n / r) / 2 < r) : r * r ≤ n := by
  have e := Int.mul_ediv_add_emod n r
  have m0 := Int.emod_nonneg n (by omega : r ≠ 0)
  have hq : r ≤ n / r := by omega
  have := Int.mul_le_mul_of_nonneg_left hq (show 0 ≤ r by omega)
  omega
/-- r is the least from 0 on whose square is not below n -/
def IsRoot (n r : Int) : Prop := ∀ w : Int, r ≤ w ↔ 0 ≤ w ∧ n ≤ w * w
theorem sq_mono {x y : Int} (h0 : 0 ≤ x) (h : x ≤ y) : x * x ≤ y * y := Int.mul_le_mul h h h0 (by omega)
theorem isRoot_zero : IsRoot 0 0 := fun w => ⟨fun h => ⟨h, Int.mul_nonneg h h⟩, fun h => h.1⟩
theorem isRoot_up {n r : Int} (hr : 0 ≤ r) (h1 : r * r < n) (h2 : n < (r + 1) * (r + 1)) : IsRoot n (r + 1) := fun w => by
  constructor
  · intro h
    have := sq_mono (by omega : 0 ≤ r + 1) h
    exact ⟨by omega, by omega⟩
  · rintro ⟨h, h3⟩
    refine Int.not_lt.mp fun c => ?_
    have := sq_mono h (show w ≤ r by omega)
    omega
theorem isRoot_same {n r : Int} (hr : 1 ≤ r) (h1 : r * r ≤ n) (h0 : ¬ r * r < n) : IsRoot n r := fun w => by
  constructor
  · intro h
    have := sq_mono (by omega : 0 ≤ r) h
    exact ⟨by omega, by omega⟩
  · rintro ⟨h, h3⟩
    refine Int.not_lt.mp fun c => ?_
    have a := sq_mono h (show w ≤ r - 1 by omega)
    have b : (r - 1) * (r - 1) = r * r - 2 * r + 1 := by grind
    omega
/-! ### the ceiling -/
theorem ceilI_le {a b v : Int} (hb : 0 < b) : -(-a / b) ≤ v ↔ a ≤ v * b := by
  have h : -v ≤ -a / b ↔ -v * b ≤ -a := Int.le_ediv_iff_mul_le hb
  have e : -v * b = -(v * b) := Int.neg_mul _ _
  rw [e] at h
  omega
/-! ### a cubic's crest -/
def absI (x : Int) : Int := if x < 0 then -x else x
def sq (x : Int) : Int := x * absI x
def minI (x y : Int) : Int := if y < x then y else x
def maxI (x y : Int) : Int := if y > x then y else x
def disc (b c d : Int) : Int := c * c - 3 * b * d
def hasI (b c d h : Int) : Prop :=
  (d = 0 ∧ c < 0 ∧ 0 ≤ b ∧ b + 2 * c * h ≤ 0) ∨
  (d ≠ 0 ∧ 0 ≤ disc b c d ∧ minI (sq c) (sq (c + 3 * d * h)) ≤ -disc b c d ∧ -disc b c d ≤ maxI (sq c) (sq (c + 3 * d * h)))
def others (a b c d : Int) : Int := 27 * a * d * d - 9 * b * c * d + 2 * c ^ 3
def crestLe (a b c d sc v : Int) : Prop :=
  (d = 0 → b * b - 4 * a * c ≤ v * (-4 * c * sc)) ∧
  (d ≠ 0 → 0 ≤ v * (27 * d * d * sc) - others a b c d ∧ 4 * disc b c d ^ 3 ≤ (v * (27 * d * d * sc) - others a b c d) * (v * (27 * d * d * sc) - others a b c d))
theorem sq_neg {x : Int} (h : x < 0) : sq x = -(x * x) := by
  unfold sq absI; rw [if_pos h, Int.mul_neg]
theorem sq_nn {x : Int} (h : 0 ≤ x) : sq x = x * x := by
  unfold sq absI; rw [if_neg (by omega)]
theorem sq_pos {x : Int} (h : 0 ≤ x) : 0 ≤ sq x := by rw [sq_nn h]; exact Int.mul_nonneg h h
theorem sq_lt0 {x : Int} (h : sq x < 0) : x < 0 := Int.not_le.mp fun c => absurd (sq_pos c) (by omega)
theorem sq_up {x y : Int} (h : x < y) : sq x < sq y := by
  by_cases hx : x < 0
  · rw [sq_neg hx]
    have px : 0 < x * x := Int.mul_pos_of_neg_of_neg hx hx
    by_cases hy : y < 0
    · rw [sq_neg hy]
      have : y * y < x * x := by
        have a : (-y) * (-y) < (-x) * (-x) := Int.mul_lt_mul (by omega) (by omega) (by omega) (by omega)
        rwa [Int.neg_mul_neg, Int.neg_mul_neg] at a
      omega
    · have := sq_pos (x := y) (by omega)
      omega
  · rw [sq_nn (by omega), sq_nn (by omega : 0 ≤ y)]
    have a : x * x ≤ x * y := Int.mul_le_mul_of_nonneg_left (by omega) (by omega)
    have b : x * y < y * y := Int.mul_lt_mul_of_pos_right h (by omega)
    omega
/-- at the edge the crest is a nail -/
theorem edge {x s T W : Int} (hx : x < 0) (hs : s = x * x) (hT : 0 ≤ T) (hW : W = T + x * x * x - 3 * s * x) : 0 ≤ W ∧ 4 * (s * s * s) ≤ W * W := by
  subst hs
  have e : W = T + 2 * ((-x) * (-x) * (-x)) := by grind
  have u0 : 0 < (-x) * (-x) * (-x) := Int.mul_pos (Int.mul_pos (by omega) (by omega)) (by omega)
  refine ⟨by omega, ?_⟩
  have e2 : 4 * (x * x * (x * x) * (x * x)) = (2 * ((-x) * (-x) * (-x))) * (2 * ((-x) * (-x) * (-x))) := by grind
  rw [e2]
  exact sq_mono (by omega) (by omega)
theorem cube_nn {x : Int} (h : 0 ≤ x) : 0 ≤ x * x * x := Int.mul_nonneg (Int.mul_nonneg h h) h
theorem min_le {x y z : Int} : minI x y ≤ z ↔ x ≤ z ∨ y ≤ z := by unfold minI; split <;> omega
theorem le_max {x y z : Int} : z ≤ maxI x y ↔ z ≤ x ∨ z ≤ y := by unfold maxI; split <;> omega
theorem minI_lt {x y : Int} (h : x < y) : minI x y = x := by unfold minI; rw [if_neg (by omega)]
theorem maxI_lt {x y : Int} (h : x < y) : maxI x y = y := by unfold maxI; rw [if_pos h]
theorem minI_gt {x y : Int} (h : y < x) : minI x y = y := by unfold minI; rw [if_pos h]
theorem maxI_gt {x y : Int} (h : y < x) : maxI x y = x := by unfold maxI; rw [if_neg (by omega)]
/-- what the specification asks of a crest between the nails -/
def insI (c d s e : Int) : Prop :=
  (0 < d → c < 0 ∧ s < c * c ∧ (0 < e ∨ e * e < s)) ∧ (¬ 0 < d → (0 < c ∨ c * c < s) ∧ e < 0 ∧ s < e * e)
theorem ins_has {c d s e : Int} (hs : 0 < s) (h : insI c d s e) : minI (sq c) (sq e) ≤ -s ∧ -s ≤ maxI (sq c) (sq e) := by
  rw [min_le, le_max]
  by_cases hd : 0 < d
  · obtain ⟨c0, c1, c2⟩ := h.1 hd
    refine ⟨.inl (by rw [sq_neg c0]; omega), .inr ?_⟩
    by_cases e0 : e < 0
    · rw [sq_neg e0]; omega
    · have := sq_pos (x := e) (by omega); omega
  · obtain ⟨c0, c1, c2⟩ := h.2 hd
    refine ⟨.inr (by rw [sq_neg c1]; omega), .inl ?_⟩
    by_cases e0 : c < 0
    · rw [sq_neg e0]; omega
    · have := sq_pos (x := c) (by omega); omega
/-- a crest that lies between the nails, not at one, is what the specification asks; at one it is a nail's -/
theorem has_edge {c d s e h : Int} (hs : 0 < s) (hd : d ≠ 0) (hh : 0 < h) (he : e = c + 3 * d * h) (h1 : minI (sq c) (sq e) ≤ -s) (h2 : -s ≤ maxI (sq c) (sq e)) :
    insI c d s e ∨ (c < 0 ∧ s = c * c) ∨ (e < 0 ∧ s = e * e) := by
  have key : ∀ {x : Int}, sq x = -s → x < 0 ∧ s = x * x := fun {x} z => by
    have n : x < 0 := sq_lt0 (by omega)
    rw [sq_neg n] at z
    exact ⟨n, by omega⟩
  have low : ∀ {x : Int}, sq x < -s → x < 0 ∧ s < x * x := fun {x} z => by
    have n : x < 0 := sq_lt0 (by omega)
    rw [sq_neg n] at z
    exact ⟨n, by omega⟩
  have high : ∀ {x : Int}, -s < sq x → 0 < x ∨ x * x < s := fun {x} z => by
    by_cases n : x < 0
    · rw [sq_neg n] at z; exact .inr (by omega)
    · by_cases n0 : x = 0
      · subst n0; exact .inr (by omega)
      · exact .inl (by omega)
  by_cases p : 0 < d
  · have ce : c < e := by
      have : 0 < d * h := Int.mul_pos p hh
      rw [he, Int.mul_assoc]; omega
    have up := sq_up ce
    rw [minI_lt up] at h1
    rw [maxI_lt up] at h2
    rcases Int.lt_or_eq_of_le h1 with a | a
    · rcases Int.lt_or_eq_of_le h2 with b | b
      · obtain ⟨u, v⟩ := low a
        exact .inl ⟨fun _ => ⟨u, v, high b⟩, fun z => absurd p z⟩
      · exact .inr (.inr (key b.symm))
    · exact .inr (.inl (key a))
  · have ce : e < c := by
      have : d * h < 0 := Int.mul_neg_of_neg_of_pos (by omega) hh
      rw [he, Int.mul_assoc]; omega
    have up := sq_up ce
    rw [minI_gt up] at h1
    rw [maxI_gt up] at h2
    rcases Int.lt_or_eq_of_le h1 with a | a
    · rcases Int.lt_or_eq_of_le h2 with b | b
      · obtain ⟨u, v⟩ := low a
        exact .inl ⟨fun z => absurd z p, fun _ => ⟨high b, u, v⟩⟩
      · exact .inr (.inl (key b.symm))
    · exact .inr (.inr (key a))
theorem W_first {a b c d s V W : Int} (hs : s = c * c - 3 * b * d) (hW : W = 27 * (d * d) * V - (27 * a * (d * d) - 3 * b * c * d + 2 * s * c)) : W = 27 * (d * d) * (V - a) + c * c * c - 3 * s * c := by
  subst hs hW; grind
theorem W_last {a b c d s e h F V W : Int} (hs : s = c * c - 3 * b * d) (he : e = c + 3 * d * h) (hF : F = a + b * h + c * h * h + d * h * h * h) (hW : W = 27 * (d * d) * V - (27 * a * (d * d) - 3 * b * c * d + 2 * s * c)) : W = 27 * (d * d) * (V - F) + e * e * e - 3 * s * e := by
  subst hs he hF hW; grind
theorem has_turn {a b c d s e h F V W : Int} (hd : d ≠ 0) (hh : 0 < h) (hs : s = c * c - 3 * b * d) (he : e = c + 3 * d * h) (hF : F = a + b * h + c * h * h + d * h * h * h) (hW : W = 27 * (d * d) * V - (27 * a * (d * d) - 3 * b * c * d + 2 * s * c))
    (ha : a ≤ V) (hb : F ≤ V) (s0 : 0 ≤ s) (h1 : minI (sq c) (sq e) ≤ -s) (h2 : -s ≤ maxI (sq c) (sq e)) (hin : 0 < s ∧ insI c d s e → 0 ≤ W ∧ 4 * (s * s * s) ≤ W * W) : 0 ≤ W ∧ 4 * (s * s * s) ≤ W * W := by
  have e1 := W_first hs hW
  have e2 := W_last hs he hF hW
  have dd : 0 ≤ 27 * (d * d) := by
    have : 0 ≤ d * d := by
      rcases Int.le_total 0 d with z | z
      · exact Int.mul_nonneg z z
      · exact Int.mul_nonneg_of_nonpos_of_nonpos z z
    omega
  have t1 : 0 ≤ 27 * (d * d) * (V - a) := Int.mul_nonneg dd (by omega)
  have t2 : 0 ≤ 27 * (d * d) * (V - F) := Int.mul_nonneg dd (by omega)
  by_cases c0 : s = 0
  · clear hs hW
    subst c0
    have w0 : 0 ≤ W := by
      rw [le_max] at h2
      rcases h2 with z | z
      · have n : 0 ≤ c := Int.not_lt.mp fun q => by
          rw [sq_neg q] at z
          have := Int.mul_pos_of_neg_of_neg q q
          omega
        have := cube_nn n
        rw [Int.mul_zero, Int.zero_mul] at e1
        omega
      · have n : 0 ≤ e := Int.not_lt.mp fun q => by
          rw [sq_neg q] at z
          have := Int.mul_pos_of_neg_of_neg q q
          omega
        have := cube_nn n
        rw [Int.mul_zero, Int.zero_mul] at e2
        omega
    refine ⟨w0, ?_⟩
    have := Int.mul_nonneg w0 w0
    omega
  · rcases has_edge (by omega) hd hh he h1 h2 with z | ⟨z, y⟩ | ⟨z, y⟩
    · exact hin ⟨by omega, z⟩
    · exact edge z y t1 e1
    · exact edge z y t2 e2
theorem has_flat {a b c h F V : Int} (hc : c < 0) (hb : 0 ≤ b) (h1 : b + 2 * c * h ≤ 0) (hF : F = a + b * h + c * h * h) (ha : a ≤ V) (hV : F ≤ V) (hin : 0 < b ∧ b + 2 * c * h < 0 → b * b ≤ 4 * c * (a - V)) : b * b ≤ 4 * c * (a - V) := by
  by_cases b0 : b = 0
  · subst b0
    have : 0 ≤ c * (a - V) := Int.mul_nonneg_of_nonpos_of_nonpos (by omega) (by omega)
    rw [Int.mul_assoc]; omega
  by_cases b1 : b + 2 * c * h = 0
  · have : 0 ≤ c * (F - V) := Int.mul_nonneg_of_nonpos_of_nonpos (by omega) (by omega)
    have eb : b = -(2 * c * h) := by omega
    have e : 4 * c * (a - V) = b * b + 4 * (c * (F - V)) := by subst hF eb; grind
    omega
  exact hin ⟨by omega, by omega⟩
namespace Line
variable (L : Line)
theorem endI (i : Nat) : L.Y (i + 1) * L.scale i = L.Y i * L.scale i + L.cb i * L.h i + L.cc i * L.h i * L.h i + L.cd i * L.h i * L.h i * L.h i := by
  unfold scale cb cc cd
  grind
theorem ins_iff (i : Nat) : L.ins i = true ↔ insI (L.cc i) (L.cd i) (L.ss i) (L.cc i + 3 * L.cd i * L.h i) := by
  have e : L.ee i = -(L.cc i + 3 * L.cd i * L.h i) := by unfold ee; omega
  unfold ins insI
  rw [e]
  generalize L.cc i + 3 * L.cd i * L.h i = z
  rw [Int.neg_mul_neg]
  by_cases p : 0 < L.cd i
  · rw [if_pos p]
    simp only [Bool.and_eq_true, Bool.or_eq_true, decide_eq_true_eq]
    constructor
    · rintro ⟨a, b, c⟩
      exact ⟨fun _ => ⟨a, b, by omega⟩, fun q => absurd p q⟩
    · rintro ⟨q, _⟩
      obtain ⟨a, b, c⟩ := q p
      exact ⟨a, b, by omega⟩
  · rw [if_neg p]
    simp only [Bool.and_eq_true, Bool.or_eq_true, decide_eq_true_eq]
    constructor
    · rintro ⟨a, b, c⟩
      exact ⟨fun q => absurd q p, fun _ => ⟨a, by omega, c⟩⟩
    · rintro ⟨_, q⟩
      obtain ⟨a, b, c⟩ := q p
      exact ⟨a, by omega, c⟩
def has (i : Nat) : Prop := hasI (L.cb i) (L.cc i) (L.cd i) (L.h i)
def crest (i : Nat) (v : Int) : Prop := crestLe (L.Y i * L.scale i) (L.cb i) (L.cc i) (L.cd i) (L.scale i) v
theorem crest_flat {i : Nat} (h : L.cd i = 0) (v : Int) : L.crest i v ↔ L.cb i * L.cb i ≤ 4 * L.cc i * (L.Y i * L.scale i - v * L.scale i) := by
  unfold crest crestLe
  have e : 4 * L.cc i * (L.Y i * L.scale i - v * L.scale i) = 4 * (L.Y i * L.scale i) * L.cc i + v * (-4 * L.cc i * L.scale i) := by grind
  rw [e]
  constructor
  · rintro ⟨a, _⟩
    have := a h
    omega
  · intro a
    exact ⟨fun _ => by omega, fun q => absurd h q⟩
theorem crest_turn {i : Nat} (h : L.cd i ≠ 0) (v : Int) : L.crest i v ↔ 0 ≤ L.ww i v ∧ 4 * (L.ss i * L.ss i * L.ss i) ≤ L.ww i v * L.ww i v := by
  unfold crest crestLe
  have e : v * (27 * L.cd i * L.cd i * L.scale i) - others (L.Y i * L.scale i) (L.cb i) (L.cc i) (L.cd i) = L.ww i v := by
    unfold ww others ss; grind
  have e2 : 4 * disc (L.cb i) (L.cc i) (L.cd i) ^ 3 = 4 * (L.ss i * L.ss i * L.ss i) := by
    unfold disc ss; grind
  rw [e, e2]
  exact ⟨fun q => q.2 h, fun q => ⟨fun z => absurd z h, fun _ => q⟩⟩
theorem top_crest {i : Nat} (hi : i < L.n) (v : Int) : (L.pc i).top ≤ v ↔ (L.Y i ≤ v ∧ L.Y (i + 1) ≤ v) ∧ (L.has i → L.crest i v) := by
  rw [L.pc_top_le hi v]
  have sp := L.scp i hi
  have hp := L.hp i hi
  constructor
  · rintro ⟨⟨y0, y1⟩, fl, tu⟩
    refine ⟨⟨y0, y1⟩, ?_⟩
    have a0 := Int.mul_le_mul_of_nonneg_right y0 (Int.le_of_lt sp)
    have a1 := Int.mul_le_mul_of_nonneg_right y1 (Int.le_of_lt sp)
    rintro (⟨hd, hc, hb, hb2⟩ | ⟨hd, s0, h1, h2⟩)
    · rw [L.crest_flat hd]
      refine has_flat hc hb hb2 (F := L.Y (i + 1) * L.scale i) ?_ a0 a1 fun q => fl hd ⟨hc, q⟩
      rw [L.endI i, hd]
      simp
    · rw [L.crest_turn hd]
      refine has_turn (W := L.ww i v) (V := v * L.scale i) (a := L.Y i * L.scale i) hd hp rfl rfl (L.endI i) ?_ a0 a1 s0 h1 h2 fun q => tu hd ⟨q.1, (L.ins_iff i).mpr q.2⟩
      unfold ww
      grind
  · rintro ⟨⟨y0, y1⟩, h⟩
    refine ⟨⟨y0, y1⟩, fun hd ⟨hc, hb, hb2⟩ => ?_, fun hd ⟨s0, hin⟩ => ?_⟩
    · exact (L.crest_flat hd v).mp (h (.inl ⟨hd, hc, by omega, by omega⟩))
    · have := ins_has s0 ((L.ins_iff i).mp hin)
      exact (L.crest_turn hd v).mp (h (.inr ⟨hd, Int.le_of_lt s0, this.1, this.2⟩))
end Line
end BM

namespace BM
open Loft LoftBattenSeed
/-- the top by the nails and the crests -/
theorem top_by {L : Line} {t : Int} (h : ∀ v : Int, t ≤ v ↔ (∀ i, i ≤ L.n → L.Y i ≤ v) ∧ ∀ i, i < L.n → L.has i → L.crest i v) : Loft.top (seg L.pc 0 L.n) = t := by
  refine top_is fun v => ?_
  rw [h v]
  have n1 := L.hn
  constructor
  · rintro ⟨a, b⟩ i hi
    exact (L.top_crest hi v).mpr ⟨⟨a i (by omega), a (i + 1) (by omega)⟩, b i hi⟩
  · intro a
    have q := fun i hi => (L.top_crest (i := i) hi v).mp (a i hi)
    refine ⟨fun i hi => ?_, fun i hi => (q i hi).2⟩
    by_cases e : i < L.n
    · exact (q i e).1.1
    · have := (q (i - 1) (by omega)).1.2
      rw [show i - 1 + 1 = i by omega] at this
      exact this
theorem top_more {L : Line} {m c : Int} {j : Nat} (h : ∀ v : Int, m ≤ v ↔ (∀ i, i ≤ L.n → L.Y i ≤ v) ∧ ∀ i, i < j → L.has i → L.crest i v) (hc : ∀ v : Int, c ≤ v ↔ L.crest j v) (hj : L.has j) :
    ∀ v : Int, (if c > m then c else m) ≤ v ↔ (∀ i, i ≤ L.n → L.Y i ≤ v) ∧ ∀ i, i < j + 1 → L.has i → L.crest i v := fun v => by
  have e : (if c > m then c else m) ≤ v ↔ m ≤ v ∧ c ≤ v := by split <;> omega
  rw [e, h v, hc v]
  constructor
  · rintro ⟨⟨a, b⟩, d⟩
    refine ⟨a, fun i hi z => ?_⟩
    by_cases e : i = j
    · subst e; exact d
    · exact b i (by omega) z
  · rintro ⟨a, b⟩
    exact ⟨⟨a, fun i hi => b i (by omega)⟩, b j (by omega) hj⟩
theorem top_less {L : Line} {m : Int} {j : Nat} (h : ∀ v : Int, m ≤ v ↔ (∀ i, i ≤ L.n → L.Y i ≤ v) ∧ ∀ i, i < j → L.has i → L.crest i v) (hj : ¬ L.has j) :
    ∀ v : Int, m ≤ v ↔ (∀ i, i ≤ L.n → L.Y i ≤ v) ∧ ∀ i, i < j + 1 → L.has i → L.crest i v := fun v => by
  rw [h v]
  refine and_congr Iff.rfl ⟨fun a i hi z => ?_, fun a i hi => a i (by omega)⟩
  by_cases e : i = j
  · subst e; exact absurd z hj
  · exact a i (by omega) z
theorem seg_mem {f : Nat → Int} {k : Nat} {x : Int} : x ∈ seg f 0 k ↔ ∃ i, i < k ∧ f i = x := by
  rw [List.mem_iff_getElem?]
  constructor
  · rintro ⟨i, h⟩
    rw [seg_get] at h
    by_cases c : i < k
    · rw [if_pos c, Nat.zero_add] at h
      exact ⟨i, c, Option.some.inj h⟩
    · rw [if_neg c] at h; cases h
  · rintro ⟨i, c, rfl⟩
    exact ⟨i, by rw [seg_get, if_pos c, Nat.zero_add]⟩
theorem top_start {L : Line} {m : Int} (h1 : m ∈ seg L.Y 0 (L.n + 1)) (h2 : ∀ y, y ∈ seg L.Y 0 (L.n + 1) → y ≤ m) : ∀ v : Int, m ≤ v ↔ (∀ i, i ≤ L.n → L.Y i ≤ v) ∧ ∀ i, i < 0 → L.has i → L.crest i v := fun v => by
  obtain ⟨j, hj, rfl⟩ := seg_mem.mp h1
  constructor
  · intro a
    refine ⟨fun i hi => ?_, fun i hi => absurd hi (by omega)⟩
    have := h2 _ (seg_mem.mpr ⟨i, by omega, rfl⟩)
    omega
  · rintro ⟨a, _⟩
    exact a j (by omega)
/-! ### how often the sign changes -/
def dif (x y : Int) : Bool := decide (x > 0) != decide (y > 0)
def chg (b : List Int) : Nat → Nat
  | 0 => 0
  | j + 1 => chg b j + if dif (b.getD j 0) (b.getD (j + 1) 0) = true then 1 else 0
theorem chg_cons (x y : Int) (r : List Int) : ∀ j, chg (x :: y :: r) (j + 1) = (if dif x y = true then 1 else 0) + chg (y :: r) j
  | 0 => by show 0 + _ = _ + 0; rw [Nat.zero_add, Nat.add_zero]; rfl
  | j + 1 => by
    show chg (x :: y :: r) (j + 1) + _ = _ + (chg (y :: r) j + _)
    rw [chg_cons x y r j, Nat.add_assoc]
    rfl
theorem dif_iff {x y : Int} (hx : x ≠ 0) (hy : y ≠ 0) : dif x y = true ↔ x * y < 0 := by
  unfold dif
  rw [bne_iff_ne, ne_eq, decide_eq_decide]
  rcases Int.lt_or_gt_of_ne hx with a | a
  · rcases Int.lt_or_gt_of_ne hy with b | b
    · have := Int.mul_pos_of_neg_of_neg a b
      constructor <;> intro <;> omega
    · have := Int.mul_neg_of_neg_of_pos a b
      constructor <;> intro <;> omega
  · rcases Int.lt_or_gt_of_ne hy with b | b
    · have := Int.mul_neg_of_pos_of_neg a b
      constructor <;> intro <;> omega
    · have := Int.mul_pos a b
      constructor <;> intro <;> omega
theorem chg_all : ∀ b : List Int, (∀ x ∈ b, x ≠ 0) → chg b (b.length - 1) = changesI b
  | [], _ => rfl
  | [_], _ => rfl
  | x :: y :: r, h => by
    show chg (x :: y :: r) (r.length + 1) = changesI (y :: r) + if x * y < 0 then 1 else 0
    rw [chg_cons, ← chg_all (y :: r) fun z hz => h z (List.mem_cons.mpr (.inr hz)), Nat.add_comm]
    show chg (y :: r) r.length + _ = chg (y :: r) r.length + _
    have d := dif_iff (h x (List.mem_cons.mpr (.inl rfl))) (h y (List.mem_cons.mpr (.inr (List.mem_cons.mpr (.inl rfl)))))
    by_cases c : x * y < 0
    · rw [if_pos c, if_pos (d.mpr c)]
    · rw [if_neg c, if_neg fun z => c (d.mp z)]
/-- the sixths that are not 0, in order -/
def bent (f : Nat → Int) (k : Nat) : List Int := (seg f 0 k).filter fun z => z != 0
theorem bent_more {f : Nat → Int} {k : Nat} (h : f k ≠ 0) : bent f (k + 1) = bent f k ++ [f k] := by
  unfold bent
  rw [seg_snoc', List.filter_append, Nat.zero_add, List.filter_cons_of_pos (by simpa using h)]
  rfl
theorem bent_less {f : Nat → Int} {k : Nat} (h : f k = 0) : bent f (k + 1) = bent f k := by
  unfold bent
  rw [seg_snoc', List.filter_append, Nat.zero_add, List.filter_cons_of_neg (by simp [h]), List.filter_nil, List.append_nil]
theorem bent_ne {f : Nat → Int} {k : Nat} : ∀ x ∈ bent f k, x ≠ 0 := fun x hx => by
  have := (List.mem_filter.mp hx).2
  simpa using this
theorem bent_len (f : Nat → Int) (k : Nat) : (bent f k).length ≤ k := by
  have := List.length_filter_le (fun z : Int => z != 0) (seg f 0 k)
  rw [seg_length] at this
  exact this
theorem turns_by (L : Line) : changesI ((seg L.s 0 L.n).filter fun z => z != 0) = chg (bent L.s (L.n + 1)) ((bent L.s (L.n + 1)).length - 1) := by
  have e : L.s L.n = 0 := x_last L.hn _
  rw [bent_less e, chg_all _ bent_ne]
  rfl
/-! ### sizes -/
theorem uuB {L : Line} (Z : Small L) : B (L.U * L.U) 1982 := (Z.uB.mul Z.uB).mono (by omega)
end BM

set_option Elab.async false
set_option linter.all false
set_option maxRecDepth 100000
set_option maxHeartbeats 4000000
namespace PB
open PySem PySem.Spec PyProof.Rows L2
/-! ### the text by places -/
def top (i : Nat) : Stmt := PySem.Challenge.pw_battenlath_s01_answers.main.body.getD i (.Pass ⟨0, 0, 0, 0⟩)
abbrev sProd : Stmt := top 11
abbrev sKinks : Stmt := top 12
abbrev sElim : Stmt := top 13
abbrev sSix : Stmt := top 14
abbrev sGcd : Stmt := top 1
abbrev sLow : Stmt := top 2
abbrev sNear : Stmt := top 4
/-! ### rules that the layer lacks -/
section
variable {X : Cx}
theorem op_mulB : OpR X (binaryOp .Mult) (rI IntMulOk fun i j => .int (i * j)) := opI fun _ _ _ _ _ _ _ hc q => mul_int q hc
def CFd (_ j : Int) : Prop := 0 < j ∧ j < 2 ^ 9000
theorem op_fdivB : OpR X (binaryOp .FloorDiv) (rI CFd fun i j => .int (i / j)) := opI fun i j _ _ _ _ _ hc q => by
  obtain ⟨h1, h2⟩ := hc
  refine floordiv_int (by omega) (by rw [Int.fdiv_eq_ediv_of_nonneg i (by omega)]; exact q) (.inl (PyProof.noPylong_of_log2 ?_))
  refine (Nat.log2_lt (by omega)).mpr ?_
  have e : ((j.natAbs : Nat) : Int) < ((2 ^ 9000 : Nat) : Int) := by
    rw [Int.natCast_pow]
    omega
  exact Int.ofNat_lt.mp e
end
theorem boot_abs : bootBuiltins "abs" = some (.builtin "abs") := by decide +kernel
theorem same_new {H : Hp} {p : Addr} (h : H p = none) (o : HO) : Same H (upd H p o) := fun b u q => by rw [upd_ne (ne_of_none q h)]; exact q
/-! ### what the defs promise -/
def spGcd : Sp := fun vs H Q _ => ∃ a b : Nat, vs = [.int a, .int b] ∧ Q (.int (Nat.gcd a b)) H
def spLow : Sp := fun vs H Q _ => ∃ a b : Int, vs = [.int a, .int b] ∧ 0 < b ∧ b < 2 ^ 9000 ∧
  ∀ p, H p = none → Q (.ref p) (upd H p (.lst [.int (a / (Nat.gcd a.natAbs b.natAbs : Int)), .int (b / (Nat.gcd a.natAbs b.natAbs : Int))]))
def nearI (a b : Int) : Int := if 2 * (a - a / b * b) > b ∨ (2 * (a - a / b * b) = b ∧ a / b % 2 = 1) then a / b + 1 else a / b
def spNear : Sp := fun vs H Q _ => ∃ a b : Int, vs = [.int a, .int b] ∧ 0 < b ∧ b < 2 ^ 9000 ∧ IntMulOk (a / b) b ∧ Q (.int (nearI a b)) H
section
variable {P : Program} {w : World} {K : PySem.W.Frag} {mg : Str → Option Value} {base : Heap}
theorem scGcd : FnScope ["one", "other", "rest"] ["one", "other"] (defScope sGcd) := ⟨rfl, rfl, rfl, by decide +kernel, rfl, by decide +kernel, by decide +kernel⟩
theorem ok_gcd {f : Addr} {fd : FuncData} (F : Fun K "common_divisor" "common_divisor" sGcd f fd) : FnOk P w K mg base CX0 1 f fd ["one", "other"] spGcd := by
  refine F.ok scGcd (fun vs H Q E h => ?_) (fun cdv A outer s H vs Q E hr h => ?_)
  · obtain ⟨a, b, rfl, _⟩ := h; rfl
  obtain ⟨a, b, rfl, q⟩ := h
  refine ⟨_, pss_cons (ps_while PassesOwn.never (pt_cmpR op_gt (pv 1) pe_int (nomark _))
      (pss_cons (ps_set (i := 2) scGcd.nd rfl (Or.inl rfl) (pe_op op_mod (pv 0) (pv 1)))
      (pss_cons (ps_set (i := 0) scGcd.nd rfl (Or.inl rfl) (pv 1))
      (pss_one (ps_set (i := 1) scGcd.nd rfl (Or.inl rfl) (pv 2))))))
    (pss_one (ps_ret (pv 0))), ?_⟩
  refine while_by (fun σ H' => H' = H ∧ ∃ (x y : Nat) (v : Option V), σ = [some (.int x), some (.int y), v] ∧ Nat.gcd x y = Nat.gcd a b)
    (fun σ _ => match σ with | [_, some (.int y), _] => y.toNat | _ => 0) ⟨rfl, a, b, _, rfl, rfl⟩ ?_ ?_
  · rintro σ H' ⟨rfl, x, y, v, rfl, e⟩
    refine ⟨_, rfl, _, _, rfl, rfl, _, rfl, ?_⟩
    refine ite2 (fun c => ?_) (fun c => ?_)
    · have c' : (0 : Int) < y := of_decide_eq_true c
      refine ⟨_, rfl, _, rfl, _, _, rfl, rfl, c', _, rfl, _, rfl, ?_⟩
      refine ⟨⟨rfl, y, x % y, _, rfl, ?_⟩, ?_⟩
      · exact (Nat.gcd_comm y (x % y)).trans ((Nat.gcd_rec y x).symm.trans ((Nat.gcd_comm y x).trans e))
      · show ((x : Int) % (y : Int)).toNat < (y : Int).toNat
        have := Int.emod_lt_of_pos (x : Int) c'
        have := Int.emod_nonneg (x : Int) (b := (y : Int)) (by omega)
        omega
    · have c' : ¬ (0 : Int) < y := of_decide_eq_false (Bool.eq_false_iff.mpr c)
      have y0 : y = 0 := by omega
      subst y0
      refine ⟨_, rfl, ?_⟩
      rw [Nat.gcd_zero_right] at e
      rw [e]
      exact q
  · rintro σ H' Q1 Q2 hq ⟨x, e1, y, z, e2, e3, k, e4, q1⟩
    exact ⟨x, e1, y, z, e2, e3, k, e4, hq _ _ q1⟩
theorem scLow : FnScope ["above", "below", "shared"] ["above", "below"] (defScope sLow) := ⟨rfl, rfl, rfl, by decide +kernel, rfl, by decide +kernel, by decide +kernel⟩
theorem ok_low {f g : Addr} {fd gd : FuncData} (F : Fun K "lowest" "lowest" sLow f fd) (G : Fun K "common_divisor" "common_divisor" sGcd g gd) (bG : Binds K gd ["one", "other"] []) (mG : mg "common_divisor" = some (.ref g)) (mabs : mg "abs" = none) :
    FnOk P w K mg base CX0 2 f fd ["above", "below"] spLow := by
  have GG : FnOk P w K mg base CX0 1 g gd ["one", "other"] spGcd := ok_gcd G
  refine F.ok scLow (fun vs H Q E h => ?_) (fun cdv A outer s H vs Q E hr h => ?_)
  · obtain ⟨a, b, rfl, _⟩ := h; rfl
  obtain ⟨a, b, rfl, hb, hb2, q⟩ := h
  refine ⟨_, pss_cons (ps_set (i := 2) scLow.nd rfl (Or.inl rfl) (pe_call GG hr rfl mG G.kp bG .nil pass0 (pa_cons (pe_callB call_abs rfl mabs boot_abs (pa_cons (pv 0) pa_nil)) (pa_cons (pv 1) pa_nil))))
    (pss_one (ps_ret (pe_lst (pa_cons (pe_op op_fdivB (pv 0) (pv 2)) (pa_cons (pe_op op_fdivB (pv 1) (pv 2)) pa_nil))))), ?_⟩
  have ea : (if a < 0 then -a else a) = ((a.natAbs : Nat) : Int) := by split <;> omega
  have eb : b = ((b.natAbs : Nat) : Int) := by omega
  have gp : 0 < Nat.gcd a.natAbs b.natAbs := Nat.gcd_pos_of_pos_right _ (by omega)
  have gl : Nat.gcd a.natAbs b.natAbs ≤ b.natAbs := Nat.gcd_le_right _ (by omega)
  refine ⟨_, rfl, _, rfl, _, rfl, a.natAbs, b.natAbs, ?_, ?_⟩
  · rw [ea, ← eb]; rfl
  have cf : ∀ i, CFd i ((Nat.gcd a.natAbs b.natAbs : Nat) : Int) := fun i => ⟨by omega, by omega⟩
  refine ⟨_, rfl, _, rfl, _, _, rfl, rfl, cf _, _, rfl, _, rfl, _, _, rfl, rfl, cf _, (by show 2 ≤ sizeLine; decide), fun p hp => ?_⟩
  exact q p hp
theorem scNear : FnScope ["above", "below", "floor", "twice_rest"] ["above", "below"] (defScope sNear) := ⟨rfl, rfl, rfl, by decide +kernel, rfl, by decide +kernel, by decide +kernel⟩
theorem ok_near {f : Addr} {fd : FuncData} (F : Fun K "nearest" "nearest" sNear f fd) : FnOk P w K mg base CX0 1 f fd ["above", "below"] spNear := by
  refine F.ok scNear (fun vs H Q E h => ?_) (fun cdv A outer s H vs Q E hr h => ?_)
  · obtain ⟨a, b, rfl, _⟩ := h; rfl
  obtain ⟨a, b, rfl, hb, hb2, hm, q⟩ := h
  refine ⟨_, pss_cons (ps_set (i := 2) scNear.nd rfl (Or.inl rfl) (pe_op op_fdivB (pv 0) (pv 1)))
    (pss_cons (ps_set (i := 3) scNear.nd rfl (Or.inl rfl) (pe_op op_mul pe_int (pe_op op_sub (pv 0) (pe_op op_mulB (pv 2) (pv 1)))))
    (pss_cons (ps_if (pw_or (pt_cmpR op_gt (pv 3) (pv 1) (nomark _)) (pw_or1 (pw_and (pt_cmpR op_eq (pv 3) (pv 1) (nomark _)) (pw_and1 (pt_cmpR op_eq (pe_op op_mod (pv 2) pe_int) pe_int (nomark _)))).pt)).pt
        (pss_one (ps_ret (pe_op op_add (pv 2) pe_int))) pss_nil)
    (pss_one (ps_ret (pv 2))))), ?_⟩
  refine ⟨_, rfl, _, rfl, _, _, rfl, rfl, ⟨hb, hb2⟩, ?_⟩
  refine ⟨_, rfl, _, rfl, _, rfl, _, _, rfl, rfl, hm, _, _, rfl, rfl, _, _, rfl, rfl, .inl ⟨by decide, by decide⟩, ?_⟩
  unfold nearI at q
  refine ⟨_, rfl, _, rfl, _, _, rfl, rfl, _, rfl, ?_⟩
  refine ite2 (fun c => ?_) (fun c => ?_)
  · have c' : b < 2 * (a - a / b * b) := of_decide_eq_true c
    rw [if_pos (.inl c')] at q
    exact iteT ⟨_, rfl, _, _, rfl, rfl, q⟩
  · have c' : ¬ b < 2 * (a - a / b * b) := of_decide_eq_false (Bool.eq_false_iff.mpr c)
    refine ⟨_, rfl, _, rfl, rfl, _, rfl, ?_⟩
    refine ite2 (fun d => ?_) (fun d => ?_)
    · have d' : (V.int (2 * (a - a / b * b))) = V.int b := of_decide_eq_true d
      injection d' with d'
      refine ⟨_, rfl, _, _, rfl, rfl, (by show (0 : Int) < 2; decide), rfl, _, rfl, ?_⟩
      refine ite2 (fun e => ?_) (fun e => ?_)
      · have e' : V.int (a / b % 2) = V.int 1 := of_decide_eq_true e
        injection e' with e'
        rw [if_pos (.inr ⟨d', e'⟩)] at q
        exact ⟨_, rfl, _, _, rfl, rfl, q⟩
      · have e' : ¬ V.int (a / b % 2) = V.int 1 := of_decide_eq_false (Bool.eq_false_iff.mpr e)
        rw [if_neg (by rintro (z | ⟨_, z⟩); exact c' z; exact e' (congrArg V.int z))] at q
        exact ⟨_, rfl, q⟩
    · have d' : ¬ V.int (2 * (a - a / b * b)) = V.int b := of_decide_eq_false (Bool.eq_false_iff.mpr d)
      rw [if_neg (by rintro (z | ⟨z, _⟩); exact c' z; exact d' (congrArg V.int z))] at q
      exact iteF ⟨_, rfl, q⟩
end
end PB

set_option Elab.async false
set_option linter.all false
set_option maxRecDepth 100000
set_option maxHeartbeats 4000000
namespace PB
open PySem PySem.Spec PyProof.Rows L2
open BM (seg M S prodL)
/-! ### rows of numbers -/
def vI (f : Nat → Int) (n : Nat) : List V := seg (fun j => V.int (f j)) 0 n
theorem vI_len (f : Nat → Int) (n : Nat) : (vI f n).length = n := BM.seg_length _ _ _
theorem vI_get {f : Nat → Int} {n j : Nat} (h : j < n) : (vI f n)[j]? = some (.int (f j)) := by
  unfold vI
  rw [BM.seg_get, if_pos h, Nat.zero_add]
theorem vI_at {f : Nat → Int} {n : Nat} {z : Int} (j : Nat) (h : j < n) (e : z = (j : Int)) : atI (vI f n) z = some (.int (f j)) := at_of e (vI_get h)
theorem vI_some {f : Nat → Int} {n j : Nat} {v : V} (h : (vI f n)[j]? = some v) : j < n ∧ v = .int (f j) := by
  unfold vI at h
  rw [BM.seg_get] at h
  by_cases c : j < n
  · rw [if_pos c, Nat.zero_add] at h; exact ⟨c, (Option.some.inj h).symm⟩
  · rw [if_neg c] at h; cases h
theorem vI_snoc (f : Nat → Int) (n : Nat) : vI f n ++ [.int (f n)] = vI f (n + 1) := by
  apply List.ext_getElem?
  intro j
  by_cases c : j < n
  · rw [List.getElem?_append_left (by rw [vI_len]; exact c), vI_get c, vI_get (by omega)]
  · rw [List.getElem?_append_right (by rw [vI_len]; omega), vI_len]
    by_cases e : j = n
    · subst e; rw [Nat.sub_self, vI_get (by omega)]; rfl
    · rw [List.getElem?_eq_none (by simp; omega), List.getElem?_eq_none (by rw [vI_len]; omega)]
theorem seg_snoc {α : Type} (f : Nat → α) : ∀ (k i : Nat), seg f i k ++ [f (i + k)] = seg f i (k + 1)
  | 0, i => rfl
  | k + 1, i => by
    show f i :: (seg f (i + 1) k ++ [f (i + (k + 1))]) = f i :: seg f (i + 1) (k + 1)
    rw [← seg_snoc f k (i + 1), show i + 1 + k = i + (k + 1) by omega]
theorem vI_set {f g : Nat → Int} {n i : Nat} (hi : i < n) (h : ∀ j, j < n → j ≠ i → g j = f j) : (vI f n).set i (.int (g i)) = vI g n := by
  apply List.ext_getElem?
  intro j
  by_cases c : j < n
  · rw [vI_get c]
    by_cases e : j = i
    · subst e; rw [List.getElem?_set_self (by rw [vI_len]; exact c)]
    · rw [List.getElem?_set_ne (fun q => e q.symm), vI_get c, h j c e]
  · rw [List.getElem?_eq_none (by rw [List.length_set, vI_len]; omega), List.getElem?_eq_none (by rw [vI_len]; omega)]
theorem vI_congr {f g : Nat → Int} {n : Nat} (h : ∀ j, j < n → f j = g j) : vI f n = vI g n := BM.seg_congr _ _ fun j _ b => by rw [h j (by omega)]
/-! ### loops over enumerate -/
theorem for_enum {K : PySem.W.Frag} {a : Addr} {xs : List V} {g : TG} {tb : TS} {D : Ends} {σ : L2.St} {H : Hp} (Pv : Nat → L2.St → Hp → Prop) (h0 : Pv 0 σ H) (hl : ∀ i σ H, i ≤ xs.length → Pv i σ H → SqL K H a xs)
    (hs : ∀ i x σ H T, xs[i]? = some x → Pv i σ H → H T = none → g (.ref T) σ (upd H T (.tup [.int (i : Nat), x])) fun σ2 H2 => tb { D with nx := Pv (i + 1), ct := Pv (i + 1), bk := D.nx } σ2 H2) (hd : ∀ σ H, Pv xs.length σ H → D.nx σ H) :
    ∃ W : Nat → Nat → L2.St → Hp → Prop, (∃ m, W 0 m σ H) ∧ ∀ i m σ H, W i m σ H →
      ((Ite K a).stop i H ∧ D.nx σ H) ∨ ((Ite K a).go i H ∧ ∃ N : L2.St → Hp → Prop, (∀ σ' H', N σ' H' → ∃ m', m' < m ∧ W (i + 1) m' σ' H') ∧ ∀ x H', (Ite K a).yld i H x H' → g x σ H' fun σ2 H2 => tb { D with nx := N, ct := N, bk := D.nx } σ2 H2) := by
  refine ⟨fun i m σ H => m = xs.length - i ∧ i ≤ xs.length ∧ Pv i σ H, ⟨xs.length, by simp, Nat.zero_le _, h0⟩, ?_⟩
  rintro i m σ H ⟨rfl, hi, p⟩
  have q := hl i σ H hi p
  by_cases hlt : i < xs.length
  · refine .inr ⟨⟨xs, xs[i], q, by simp [hlt]⟩, Pv (i + 1), fun σ' H' p' => ⟨xs.length - (i + 1), by omega, rfl, hlt, p'⟩, fun x H' y => ?_⟩
    obtain ⟨T, z, e1, e2, e3, y⟩ := y
    subst e1 e3
    exact hs i z σ _ T (y xs q) p e2
  · have e : i = xs.length := by omega
    subst e
    exact .inl ⟨⟨xs, q, Nat.le_refl _⟩, hd σ H p⟩
theorem lc_enum {K : PySem.W.Frag} {a : Addr} {xs : List V} {g : TG} {tt : TT} {te : TE} {vs : List Nat} {σ : L2.St} {H1 : Hp} {D : Addr} {Qd : Hp → Prop} (Pv : Nat → Hp → Prop) (h0 : Pv 0 (upd H1 D (.lst []))) (hl : ∀ i H, i ≤ xs.length → Pv i H → SqL K H a xs)
    (hs : ∀ i x H T, xs[i]? = some x → Pv i H → H T = none → g (.ref T) (wipe σ vs) (upd H T (.tup [.int (i : Nat), x])) fun σ2 H2 => wipe σ2 vs = wipe σ vs ∧ tt σ2 H2 fun b H3 =>
      if b = true then te σ2 H3 fun y H4 => ∃ acc, H4 D = some (.lst acc) ∧ acc.length < sizeLine ∧ Pv (i + 1) (upd H4 D (.lst (acc ++ [y]))) else Pv (i + 1) H3) (hd : ∀ H, Pv xs.length H → Qd H) :
    ∃ W : Nat → Nat → Hp → Prop, (∃ m, W 0 m (upd H1 D (.lst []))) ∧ ∀ i m H, W i m H →
      ((Ite K a).stop i H ∧ Qd H) ∨ ((Ite K a).go i H ∧ ∃ Nx : Hp → Prop, (∀ H', Nx H' → ∃ m', m' < m ∧ W (i + 1) m' H') ∧ ∀ x H', (Ite K a).yld i H x H' → g x (wipe σ vs) H' fun σ2 H2 => wipe σ2 vs = wipe σ vs ∧ tt σ2 H2 fun b H3 =>
        if b = true then te σ2 H3 fun y H4 => ∃ acc, H4 D = some (.lst acc) ∧ acc.length < sizeLine ∧ Nx (upd H4 D (.lst (acc ++ [y]))) else Nx H3) := by
  refine ⟨fun i m H => m = xs.length - i ∧ i ≤ xs.length ∧ Pv i H, ⟨xs.length, by simp, Nat.zero_le _, h0⟩, ?_⟩
  rintro i m H ⟨rfl, hi, p⟩
  have q := hl i H hi p
  by_cases hlt : i < xs.length
  · refine .inr ⟨⟨xs, xs[i], q, by simp [hlt]⟩, Pv (i + 1), fun H' p' => ⟨xs.length - (i + 1), by omega, rfl, hlt, p'⟩, fun x H' y => ?_⟩
    obtain ⟨T, z, e1, e2, e3, y⟩ := y
    subst e1 e3
    exact hs i z _ T (y xs q) p e2
  · have e : i = xs.length := by omega
    subst e
    exact .inl ⟨⟨xs, q, Nat.le_refl _⟩, hd H p⟩
/-- a list of one's own that grows: all else that was there stays -/
theorem same_own {H H' : Hp} {p : Addr} {o : HO} (s : Same H H') (h : H p = none) : Same H (upd H' p o) := fun b u q => by rw [upd_ne (ne_of_none q h)]; exact s b u q
theorem yesT {σ : L2.St} {H : Hp} {Q : Bool → Hp → Prop} (h : Q true H) : tYes σ H Q := h
theorem seqT {K : PySem.W.Frag} {H : Hp} {T : Addr} {xs : List V} : SqT K (upd H T (.tup xs)) T xs := .inl (.inl upd_same)
section
variable {P : Program} {w : World} {K : PySem.W.Frag} {mg : Str → Option Value} {base : Heap}
/-! ### product_of -/
def spProd (K : PySem.W.Frag) : Sp := fun vs H Q _ => ∃ (a : Addr) (f : Nat → Int) (n : Nat), vs = [.ref a] ∧ SqL K H a (vI f n) ∧ (∀ i, i < n → 0 < f i ∧ f i < 2097152) ∧ Q (.int (prodL f n)) H
theorem scProd : FnScope ["numbers", "product", "number"] ["numbers"] (defScope sProd) := ⟨rfl, rfl, rfl, by decide +kernel, rfl, by decide +kernel, by decide +kernel⟩
theorem ok_prod {f : Addr} {fd : FuncData} (F : Fun K "product_of" "product_of" sProd f fd) : FnOk P w K mg base CX0 1 f fd ["numbers"] (spProd K) := by
  refine F.ok scProd (fun vs H Q E h => ?_) (fun cdv A outer s H vs Q E hr h => ?_)
  · obtain ⟨a, f, n, rfl, _⟩ := h; rfl
  obtain ⟨a, f, n, rfl, hS, hb, q⟩ := h
  refine ⟨_, pss_cons (ps_set (i := 1) scProd.nd rfl (Or.inl rfl) pe_int)
    (pss_cons (ps_for PassesOwn.never rfl (pi_list (pv 0)) (pg_name (i := 2) scProd.nd rfl (Or.inl rfl)) (pss_one (ps_set (i := 1) scProd.nd rfl (Or.inl rfl) (pe_op op_mul (pv 1) (pv 2)))))
    (pss_one (ps_ret (pv 1)))), ?_⟩
  refine ⟨_, rfl, a, rfl, ⟨_, hS⟩, for_list (K := K) (a := a) (xs := vI f n) (fun i σ H' => H' = H ∧ ∃ v : Option V, σ = [some (.ref a), some (.int (prodL f i)), v]) ⟨rfl, none, rfl⟩ (fun i σ H' _ ⟨e, _⟩ => by rw [e]; exact hS) ?_ ?_⟩
  · rintro i y σ H' hi ⟨rfl, v, rfl⟩
    obtain ⟨h1, rfl⟩ := vI_some hi
    have := hb i h1
    refine ⟨_, rfl, _, rfl, _, _, rfl, rfl, .inr ⟨by omega, by omega⟩, rfl, _, rfl⟩
  · rintro σ H' ⟨rfl, v, rfl⟩
    rw [vI_len]
    exact ⟨_, rfl, q⟩
/-! ### kinks_of -/
open BM (Line Small)
def steep (L : Line) (i : Nat) : Int := (L.Y (i + 1) - L.Y i) * L.D i
def kk (L : Line) (i : Nat) : Int := if i = 0 then 0 else L.K i
theorem dv (L : Line) {i : Nat} (hi : i < L.n) : L.P / L.h i = L.D i := by
  have e : L.D i * L.h i = L.P := L.hD i hi
  have := L.hp i hi
  rw [← e, Int.mul_ediv_cancel _ (by omega)]
def spKinks (K : PySem.W.Frag) : Sp := fun vs H Q _ => ∃ (a b : Addr) (L : Line), Small L ∧ vs = [.ref a, .ref b, .int L.P] ∧ SqL K H a (vI L.h L.n) ∧ SqL K H b (vI L.Y (L.n + 1)) ∧
  ∀ (p : Addr) (H' : Hp), Same H H' → H' p = some (.lst (vI (kk L) L.n)) → Q (.ref p) H'
theorem scKinks : FnScope ["gaps", "ys", "product", "steeps", "i", "gap"] ["gaps", "ys", "product"] (defScope sKinks) := ⟨rfl, rfl, rfl, by decide +kernel, rfl, by decide +kernel, by decide +kernel⟩
theorem ok_kinks {f : Addr} {fd : FuncData} (F : Fun K "kinks_of" "kinks_of" sKinks f fd) (me : mg "enumerate" = none) (mr : mg "range" = none) (ml : mg "len" = none) : FnOk P w K mg base CX0 1 f fd ["gaps", "ys", "product"] (spKinks K) := by
  refine F.ok scKinks (fun vs H Q E h => ?_) (fun cdv A outer s H vs Q E hr h => ?_)
  · obtain ⟨a, b, L, _, rfl, _⟩ := h; rfl
  obtain ⟨a, b, L, Z, rfl, hS, hY, q⟩ := h
  refine ⟨_, pss_cons (ps_set (i := 3) scKinks.nd rfl (Or.inr rfl)
      (pe_lc (g := gTup K 2 (gCons (gName 4) (gCons (gName 5) gNil))) (own := [("i", 4), ("gap", 5)]) rfl scKinks.nd (pi_enum rfl me (pa_cons (pv 0) pa_nil)) (blkOk_by (by show blkC ["gaps", "ys", "product", "steeps", "i", "gap"] (defScope sKinks) _ _ = true; decide +kernel))
        (fun _ _ _ _ _ => by exact pg_tup rfl (pgs_cons (pg_name (i := 4) scKinks.nd rfl (Or.inl rfl)) (pgs_cons (pg_name (i := 5) scKinks.nd rfl (Or.inl rfl)) pgs_nil)))
        (fun _ _ _ _ _ => pts_nil)
        (fun _ _ _ _ _ => by exact pe_op op_mul (pe_op op_sub (pe_ix (r := rIxL K) ix_list (pv 1) (pe_op op_add (pv 4) pe_int) (fun _ _ => rfl)) (pe_ix (r := rIxL K) ix_list (pv 1) (pv 4) (fun _ _ => rfl))) (pe_op op_fdivB (pv 2) (pv 5)))))
    (pss_one (ps_ret (pe_op op_cat (pe_lst (pa_cons pe_int pa_nil))
      (pe_lc (own := [("i", 4)]) rfl scKinks.nd (pi_range2 rfl mr (pa_cons pe_int (pa_cons (pe_callB call_len_seq rfl ml PySem.boot_len (pa_cons (pv 3) pa_nil)) pa_nil))) (blkOk_by (by show blkC ["gaps", "ys", "product", "steeps", "i", "gap"] (defScope sKinks) _ _ = true; decide +kernel))
        (fun _ _ _ _ _ => by exact pg_name (i := 4) scKinks.nd rfl (Or.inl rfl))
        (fun _ _ _ _ _ => pts_nil)
        (fun _ _ _ _ _ => by exact pe_op op_sub (pe_ix (r := rIxL K) ix_list (pv 3) (pv 4) (fun _ _ => rfl)) (pe_ix (r := rIxL K) ix_list (pv 3) (pe_op op_sub (pv 4) pe_int) (fun _ _ => rfl))))))), ?_⟩
  refine ⟨_, rfl, a, _, rfl, hS, fun D hD => lc_enum (xs := vI L.h L.n) (fun i H' => Same H H' ∧ H' D = some (.lst (vI (steep L) i))) ⟨same_new hD _, upd_same⟩ (fun i H' _ ⟨s, _⟩ => s.seq hS) ?_ ?_⟩
  · rintro i x H' T hx ⟨s, hD'⟩ hT
    obtain ⟨hi, rfl⟩ := vI_some hx
    have s2 : Same H (upd H' T (.tup [.int (i : Nat), .int (L.h i)])) := s.trans (same_new hT _)
    have hD2 : (upd H' T (.tup [.int (i : Nat), .int (L.h i)])) D = some (.lst (vI (steep L) i)) := by rw [upd_ne (ne_of_none hD' hT)]; exact hD'
    have hb := Z.h i hi
    have rb := Z.rB i hi
    refine ⟨T, _, rfl, seqT, rfl, _, _, rfl, _, _, rfl, rfl, rfl, yesT (iteT ?_)⟩
    refine ⟨_, rfl, _, rfl, _, _, rfl, rfl, b, _, _, _, rfl, rfl, s2.seq hY, vI_at (i + 1) (by omega) (by omega), _, rfl, _, rfl, b, _, _, _, rfl, rfl, s2.seq hY, vI_at i (by omega) rfl, _, _, rfl, rfl, _, rfl, _, rfl, _, _, rfl, rfl, ⟨by omega, by omega⟩,
      _, _, rfl, rfl, .inl ⟨by unfold BM.B at rb; omega, by unfold BM.B at rb; omega⟩, _, hD2, by rw [vI_len]; exact small1000 (by have := Z.n; omega), same_own s2 hD, ?_⟩
    rw [upd_same, dv L hi, ← vI_snoc (steep L) i]
    rfl
  · rintro H1 ⟨s1, h1⟩
    rw [vI_len] at h1
    refine ⟨by show 1 ≤ sizeLine; decide, fun p hp => ?_⟩
    have s2 := s1.trans (same_new hp (.lst [.int 0]))
    have h2 : (upd H1 p (.lst [.int 0])) D = some (.lst (vI (steep L) L.n)) := by rw [upd_ne (ne_of_none h1 hp)]; exact h1
    refine ⟨_, rfl, D, _, rfl, .inl (SqL.of h2), 1, _, rfl, ⟨by decide, by decide, by omega, by rw [vI_len]; have := Z.n; omega⟩, fun D2 hD2 => lc_range (lo := 1) (fun i H' => Same (upd H1 p (.lst [.int 0])) H' ∧ H' D2 = some (.lst (seg (fun j => V.int (kk L j)) 1 i))) ⟨same_new hD2 _, upd_same⟩ ?_ ?_⟩
    · rintro i H' hi ⟨s3, h3⟩
      rw [vI_len] at hi
      have h4 := s3 _ _ h2
      refine ⟨rfl, yesT (iteT ?_)⟩
      refine ⟨_, rfl, _, rfl, D, _, _, _, rfl, rfl, SqL.of h4, vI_at (1 + i) (by omega) (by omega), _, rfl, _, rfl, _, _, rfl, rfl, D, _, _, _, rfl, rfl, SqL.of h4, vI_at i (by omega) (by omega), _, _, rfl, rfl, _, h3, by rw [BM.seg_length]; exact small1000 (by have := Z.n; omega), same_own s3 hD2, ?_⟩
      rw [upd_same, ← seg_snoc _ i 1]
      have e : steep L (1 + i) - steep L i = kk L (1 + i) := by
        unfold kk
        rw [if_neg (by omega)]
        unfold steep Line.K
        rw [show 1 + i - 1 = i by omega, show 1 + i = i + 1 by omega]
      rw [← e]
    · rintro H' ⟨s3, h3⟩
      rw [vI_len] at h3
      have e : (((L.n : Nat) : Int) - 1).toNat = L.n - 1 := by omega
      rw [e] at h3
      refine ⟨p, D2, _, _, rfl, rfl, s3 _ _ upd_same, h3, by rw [BM.seg_length]; exact Nat.le_of_lt (small1000 (by have := Z.n; show 1 + _ ≤ 1000; omega)), fun r hr' => ?_⟩
      refine q r _ (s2.trans (s3.trans (same_new hr' _))) ?_
      rw [upd_same]
      have e2 : [V.int 0] ++ seg (fun j => V.int (kk L j)) 1 (L.n - 1) = vI (kk L) L.n := by
        show V.int (kk L 0) :: seg (fun j => V.int (kk L j)) 1 (L.n - 1) = _
        unfold vI
        have := L.hn
        rw [show L.n = L.n - 1 + 1 by omega, Nat.add_sub_cancel]
        rfl
      rw [e2]
end
end PB

set_option Elab.async false
set_option linter.all false
set_option maxRecDepth 100000
set_option maxHeartbeats 4000000
namespace PB
open PySem PySem.Spec PyProof.Rows L2
open BM (seg M S prodL Line Small B)
theorem mulOk {a b : Int} {m n : Nat} (ha : B a m) (hb : B b n) (h : m + n ≤ 134217728) : IntMulOk a b := IntMulOk.of_le (intBits_le_iff.mpr ha) (intBits_le_iff.mpr hb) h
section
variable {P : Program} {w : World} {K : PySem.W.Frag} {mg : Str → Option Value} {base : Heap}
/-! ### eliminate -/
def spElim (K : PySem.W.Frag) : Sp := fun vs H Q _ => ∃ (a b : Addr) (L : Line), Small L ∧ vs = [.ref a, .ref b] ∧ SqL K H a (vI L.h L.n) ∧ SqL K H b (vI (kk L) L.n) ∧
  ∀ (t m r : Addr) (H' : Hp), Same H H' → H' t = some (.tup [.ref m, .ref r]) → H' m = some (.lst (vI (M L.h) L.n)) → H' r = some (.lst (vI (S L.h L.K) L.n)) → Q (.ref t) H'
theorem scElim : FnScope ["gaps", "kinks", "minors", "sides", "older", "i", "before", "minor"] ["gaps", "kinks"] (defScope sElim) := ⟨rfl, rfl, rfl, by decide +kernel, rfl, by decide +kernel, by decide +kernel⟩
theorem M_next (L : Line) (i : Nat) : 2 * (L.h i + L.h (i + 1)) * M L.h i - L.h i * L.h i * (if i = 0 then 0 else M L.h (i - 1)) = M L.h (i + 1) := by
  by_cases e : i = 0
  · subst e
    rw [if_pos rfl, Int.mul_zero, Int.sub_zero]
    show 2 * (L.h 0 + L.h 1) * 1 = 2 * (L.h 0 + L.h 1)
    rw [Int.mul_one]
  · rw [if_neg e, BM.M_step i (by omega)]
theorem ok_elim {f : Addr} {fd : FuncData} (F : Fun K "eliminate" "eliminate" sElim f fd) (mr : mg "range" = none) (ml : mg "len" = none) : FnOk P w K mg base CX0 1 f fd ["gaps", "kinks"] (spElim K) := by
  refine F.ok scElim (fun vs H Q E h => ?_) (fun cdv A outer s H vs Q E hr h => ?_)
  · obtain ⟨a, b, L, _, rfl, _⟩ := h; rfl
  obtain ⟨a, b, L, Z, rfl, hS, hK, q⟩ := h
  refine ⟨_, pss_cons (ps_set (i := 2) scElim.nd rfl (Or.inl rfl) (pe_lst (pa_cons pe_int pa_nil)))
    (pss_cons (ps_set (i := 3) scElim.nd rfl (Or.inl rfl) (pe_lst (pa_cons pe_int pa_nil)))
    (pss_cons (ps_set (i := 4) scElim.nd rfl (Or.inl rfl) pe_int)
    (pss_cons (ps_for PassesOwn.never rfl (pi_range2 rfl mr (pa_cons pe_int (pa_cons (pe_callB call_len_seq rfl ml PySem.boot_len (pa_cons (pv 0) pa_nil)) pa_nil))) (pg_name (i := 5) scElim.nd rfl (Or.inl rfl))
      (pss_cons (ps_set (i := 6) scElim.nd rfl (Or.inl rfl) (pe_ix ix_list (pv 0) (pe_op op_sub (pv 5) pe_int) (fun _ _ => rfl)))
      (pss_cons (ps_set (i := 7) scElim.nd rfl (Or.inl rfl) (pe_op op_sub (pe_op op_mul (pe_op op_mul pe_int (pe_op op_add (pv 6) (pe_ix ix_list (pv 0) (pv 5) (fun _ _ => rfl)))) (pe_ix ix_list (pv 2) (pe_op op_sub (pv 5) pe_int) (fun _ _ => rfl))) (pe_op op_mul (pe_op op_mul (pv 6) (pv 6)) (pv 4))))
      (pss_cons (ps_expr (pe_bm PySem.F.plainAttrs_list PySem.F.slot_list_append PySem.F.type_list_append mt_append (pv 3) (pa_cons (pe_op op_sub (pe_op op_mulB (pe_ix ix_list (pv 2) (pe_op op_sub (pv 5) pe_int) (fun _ _ => rfl)) (pe_ix ix_list (pv 1) (pv 5) (fun _ _ => rfl))) (pe_op op_mul (pv 6) (pe_ix ix_list (pv 3) (pe_op op_sub (pv 5) pe_int) (fun _ _ => rfl)))) pa_nil)))
      (pss_cons (ps_set (i := 4) scElim.nd rfl (Or.inl rfl) (pe_ix ix_list (pv 2) (pe_op op_sub (pv 5) pe_int) (fun _ _ => rfl)))
      (pss_one (ps_expr (pe_bm PySem.F.plainAttrs_list PySem.F.slot_list_append PySem.F.type_list_append mt_append (pv 2) (pa_cons (pv 7) pa_nil)))))))))
    (pss_one (ps_ret (pe_tup (pa_cons (pv 2) (pa_cons (pv 3) pa_nil)))))))), ?_⟩
  have n1 := L.hn
  have n2 := Z.n
  refine ⟨by show 1 ≤ sizeLine; decide, fun m hm => ⟨by show 1 ≤ sizeLine; decide, fun r hr' => ?_⟩⟩
  have hr0 : H r = none := (same_new hm (.lst [.int 1])).free hr'
  have hmr : m ≠ r := ne_of_none upd_same hr'
  have s0 : Same H (upd (upd H m (.lst [.int 1])) r (.lst [.int 0])) := (same_new hm _).trans (same_new hr' _)
  refine ⟨_, rfl, a, _, rfl, .inl (s0.seq hS), 1, _, rfl, ⟨by decide, by decide, by omega, by rw [vI_len]; omega⟩,
    for_range (lo := 1) (fun i σ H' => ∃ v5 v6 v7 : Option V, σ = [some (.ref a), some (.ref b), some (.ref m), some (.ref r), some (.int (if i = 0 then 0 else M L.h (i - 1))), v5, v6, v7] ∧ Same H H' ∧
      H' m = some (.lst (vI (M L.h) (i + 1))) ∧ H' r = some (.lst (vI (S L.h L.K) (i + 1)))) ⟨none, none, none, rfl, s0, by rw [upd_ne hmr, upd_same]; rfl, by rw [upd_same]; rfl⟩ ?_ ?_⟩
  · rintro i σ H' hi ⟨v5, v6, v7, rfl, s1, h1, h2⟩
    rw [vI_len] at hi
    have hi' : i + 1 < L.n := by omega
    have hh := Z.h i (by omega)
    have hh1 := Z.h (i + 1) hi'
    have hsq : L.h i * L.h i < 2 ^ 64 := by
      have := ((Z.hB i (by omega)).mul (Z.hB i (by omega))).lt
      omega
    have hsq0 : 0 < L.h i * L.h i := Int.mul_pos hh.1 hh.1
    refine ⟨_, rfl, _, rfl, _, _, rfl, rfl, a, _, _, _, rfl, rfl, s1.seq hS, vI_at i (by omega) (by omega), ?_⟩
    refine ⟨_, rfl, _, rfl, _, rfl, a, _, _, _, rfl, rfl, s1.seq hS, vI_at (i + 1) hi' (by omega), _, _, rfl, rfl, _, _, rfl, rfl, .inl ⟨by decide, by decide⟩, _, rfl, _, rfl, _, _, rfl, rfl, m, _, _, _, rfl, rfl, SqL.of h1, vI_at i (by omega) (by omega),
      _, _, rfl, rfl, .inl ⟨by omega, by omega⟩, _, rfl, _, rfl, _, _, rfl, rfl, .inl ⟨by omega, by omega⟩, _, rfl, _, _, rfl, rfl, .inl ⟨by omega, by omega⟩, _, _, rfl, rfl, ?_⟩
    have kb := Z.kB (i + 1) (by omega) hi'
    have ek : kk L (i + 1) = L.K (i + 1) := if_neg (by omega)
    refine ⟨_, rfl, .inl ⟨rfl, _, SqL.of h2⟩, _, rfl, _, rfl, _, _, rfl, rfl, m, _, _, _, rfl, rfl, SqL.of h1, vI_at i (by omega) (by omega), _, rfl, _, rfl, b, _, _, _, rfl, rfl, s1.seq hK, vI_at (i + 1) hi' (by omega), _, _, rfl, rfl,
      mulOk (Z.mB i (by omega)) (by rw [ek]; exact kb) (by omega), _, rfl, _, rfl, _, rfl, _, _, rfl, rfl, r, _, _, _, rfl, rfl, SqL.of h2, vI_at i (by omega) (by omega), _, _, rfl, rfl, .inl ⟨by omega, by omega⟩, _, _, rfl, rfl, r, _, _, rfl, rfl, h2, by rw [vI_len]; exact small1000 (by omega), ?_⟩
    have h1' : (upd H' r (.lst (vI (S L.h L.K) (i + 1) ++ [.int (M L.h i * kk L (i + 1) - L.h i * S L.h L.K i)]))) m = some (.lst (vI (M L.h) (i + 1))) := by rw [upd_ne hmr]; exact h1
    refine ⟨_, rfl, _, rfl, _, _, rfl, rfl, m, _, _, _, rfl, rfl, SqL.of h1', vI_at i (by omega) (by omega), ?_⟩
    refine ⟨_, rfl, .inl ⟨rfl, _, SqL.of h1'⟩, _, rfl, m, _, _, rfl, rfl, h1', by rw [vI_len]; exact small1000 (by omega), ?_⟩
    refine ⟨_, _, _, rfl, same_own (same_own s1 hr0) hm, ?_, ?_⟩
    · rw [upd_same, ← vI_snoc (M L.h) (i + 1), ← M_next L i]
    · rw [upd_ne (Ne.symm hmr), upd_same, ek, ← vI_snoc (S L.h L.K) (i + 1)]
      rfl
  · rintro σ H' ⟨v5, v6, v7, rfl, s1, h1, h2⟩
    rw [vI_len, show (((L.n : Nat) : Int) - 1).toNat + 1 = L.n by omega] at h1 h2
    refine ⟨_, rfl, _, rfl, by show 2 ≤ sizeLine; decide, fun t ht => ?_⟩
    exact q t m r _ (s1.trans (same_new ht _)) upd_same (by rw [upd_ne (ne_of_none h1 ht)]; exact h1) (by rw [upd_ne (ne_of_none h2 ht)]; exact h2)
/-! ### sixths_of -/
def spSix (K : PySem.W.Frag) : Sp := fun vs H Q _ => ∃ (a b : Addr) (L : Line), Small L ∧ vs = [.ref a, .ref b] ∧ SqL K H a (vI L.h L.n) ∧ SqL K H b (vI (kk L) L.n) ∧
  ∀ (t m : Addr) (H' : Hp), Same H H' → H' t = some (.tup [.ref m, .int L.W]) → H' m = some (.lst (vI L.s (L.n + 1))) → H m = none → Q (.ref t) H'
theorem scSix : FnScope ["gaps", "kinks", "cleared", "minors", "sides", "whole", "sixths", "i"] ["gaps", "kinks"] (defScope sSix) := ⟨rfl, rfl, rfl, by decide +kernel, rfl, by decide +kernel, by decide +kernel⟩
/-- the sixths that stand after t turns -/
def six (L : Line) (t j : Nat) : Int := if L.n - t ≤ j then L.s j else 0
theorem six_start (L : Line) : (List.replicate (L.n + 1) [V.int 0]).flatten = vI (six L 0) (L.n + 1) := by
  have e : ∀ k, (List.replicate k [V.int 0]).flatten = List.replicate k (V.int 0) := by
    intro k
    induction k with
    | zero => rfl
    | succ k ih => rw [List.replicate_succ, List.flatten_cons, ih]; rfl
  rw [e]
  apply List.ext_getElem?
  intro j
  by_cases c : j < L.n + 1
  · rw [vI_get c, List.getElem?_replicate, if_pos c]
    unfold six
    by_cases d : L.n - 0 ≤ j
    · rw [if_pos d, show j = L.n by omega]
      have : L.s L.n = 0 := BM.x_last L.hn _
      rw [this]
    · rw [if_neg d]
  · rw [List.getElem?_eq_none (by simp; omega), List.getElem?_eq_none (by rw [vI_len]; omega)]
theorem six_val (L : Line) {t : Nat} (ht : t + 2 ≤ L.n) : (S L.h L.K (L.n - 1 - t) * L.W - M L.h (L.n - 2 - t) * L.h (L.n - 1 - t) * six L t (L.n - t)) / M L.h (L.n - 1 - t) = six L (t + 1) (L.n - 1 - t) := by
  unfold six
  rw [if_pos (by omega), if_pos (by omega)]
  unfold Line.s BM.x
  rw [if_neg (by omega), if_neg (by omega), show L.n - (L.n - t) = t by omega, show L.n - (L.n - 1 - t) = t + 1 by omega]
  rfl
theorem ok_six {f g : Addr} {fd gd : FuncData} (F : Fun K "sixths_of" "sixths_of" sSix f fd) (G : Fun K "eliminate" "eliminate" sElim g gd) (bG : Binds K gd ["gaps", "kinks"] []) (mG : mg "eliminate" = some (.ref g)) (mr : mg "range" = none) (ml : mg "len" = none) : FnOk P w K mg base CX0 2 f fd ["gaps", "kinks"] (spSix K) := by
  have GG : FnOk P w K mg base CX0 1 g gd ["gaps", "kinks"] (spElim K) := ok_elim G mr ml
  refine F.ok scSix (fun vs H Q E h => ?_) (fun cdv A outer s H vs Q E hr h => ?_)
  · obtain ⟨a, b, L, _, rfl, _⟩ := h; rfl
  obtain ⟨a, b, L, Z, rfl, hS, hK, q⟩ := h
  refine ⟨_, pss_cons (ps_set (i := 2) scSix.nd rfl (Or.inl rfl) (pe_call GG hr rfl mG G.kp bG .nil pass0 (pa_cons (pv 0) (pa_cons (pv 1) pa_nil))))
    (pss_cons (ps_set (i := 3) scSix.nd rfl (Or.inl rfl) (pe_ix ix_tup (pv 2) pe_int (fun _ _ => rfl)))
    (pss_cons (ps_set (i := 4) scSix.nd rfl (Or.inl rfl) (pe_ix ix_tup (pv 2) pe_int (fun _ _ => rfl)))
    (pss_cons (ps_set (i := 5) scSix.nd rfl (Or.inl rfl) (pe_ix ix_list (pv 3) (pe_un un_neg pe_int) (fun _ _ => rfl)))
    (pss_cons (ps_set (i := 6) scSix.nd rfl (Or.inl rfl) (pe_op op_rep (pe_lst (pa_cons pe_int pa_nil)) (pe_op op_add (pe_callB call_len_seq rfl ml PySem.boot_len (pa_cons (pv 0) pa_nil)) pe_int)))
    (pss_cons (ps_for PassesOwn.never rfl (pi_range3 rfl mr (pa_cons (pe_op op_sub (pe_callB call_len_seq rfl ml PySem.boot_len (pa_cons (pv 0) pa_nil)) pe_int) (pa_cons pe_int (pa_cons (pe_un un_neg pe_int) pa_nil)))) (pg_name (i := 7) scSix.nd rfl (Or.inl rfl))
      (pss_one (ps_asg (pe_op op_fdivB (pe_op op_sub (pe_op op_mulB (pe_ix ix_list (pv 4) (pv 7) (fun _ _ => rfl)) (pv 5)) (pe_op op_mulB (pe_op op_mul (pe_ix ix_list (pv 3) (pe_op op_sub (pv 7) pe_int) (fun _ _ => rfl)) (pe_ix ix_list (pv 0) (pv 7) (fun _ _ => rfl))) (pe_ix ix_list (pv 6) (pe_op op_add (pv 7) pe_int) (fun _ _ => rfl)))) (pe_ix ix_list (pv 3) (pv 7) (fun _ _ => rfl)))
        (pg_sub (pv 6) (pv 7) set_list))))
    (pss_one (ps_ret (pe_tup (pa_cons (pv 6) (pa_cons (pv 5) pa_nil)))))))))), ?_⟩
  have n1 := L.hn
  have n2 := Z.n
  refine ⟨_, rfl, _, rfl, a, b, L, Z, rfl, hS, hK, fun t m r H1 s1 ht hm hr1 => ?_⟩
  have hM1 : atI (vI (M L.h) L.n) (-1) = some (.int L.W) := by
    have e : vI (M L.h) L.n = vI (M L.h) (L.n - 1) ++ [.int (M L.h (L.n - 1))] := by rw [vI_snoc, show L.n - 1 + 1 = L.n by omega]
    rw [e]
    exact atI_last _ _
  refine ⟨_, rfl, t, _, _, _, rfl, rfl, SqT.of ht, rfl, _, rfl, t, _, _, _, rfl, rfl, SqT.of ht, rfl, _, rfl, _, rfl, m, _, _, _, rfl, rfl, SqL.of hm, hM1, ?_⟩
  refine ⟨by show 1 ≤ sizeLine; decide, fun p hp => ?_⟩
  have s2 := s1.trans (same_new hp (.lst [.int 0]))
  refine ⟨_, rfl, a, _, rfl, .inl (s2.seq hS), _, _, rfl, rfl, p, _, _, rfl, rfl, upd_same, by rw [vI_len]; omega, by rw [vI_len]; omega, by rw [vI_len]; show 1 * _ ≤ _; exact Nat.le_of_lt (small1000 (by omega)), fun x hx => ?_⟩
  have e6 : (List.replicate (((vI L.h L.n).length : Int) + 1).toNat [V.int 0]).flatten = vI (six L 0) (L.n + 1) := by
    rw [vI_len, show ((L.n : Int) + 1).toNat = L.n + 1 by omega, six_start]
  have hx0 : H x = none := s2.free hx
  have s3 : Same (upd H1 p (.lst [.int 0])) (upd (upd H1 p (.lst [.int 0])) x (.lst (List.replicate (((vI L.h L.n).length : Int) + 1).toNat [V.int 0]).flatten)) := same_new hx _
  have sm : Same H1 (upd H1 p (.lst [.int 0])) := same_new hp _
  refine ⟨_, rfl, a, _, rfl, .inl ((s2.trans s3).seq hS), _, _, rfl, rfl, _, rfl, _, _, _, _, rfl, RgC.neg (by rw [vI_len]; omega) (by rw [vI_len]; omega) (by decide) (by decide),
    for_rangeC (fun u σ H' => ∃ v7 : Option V, σ = [some (.ref a), some (.ref b), some (.ref t), some (.ref m), some (.ref r), some (.int L.W), some (.ref x), v7] ∧ Same (upd H1 p (.lst [.int 0])) H' ∧ H' x = some (.lst (vI (six L u) (L.n + 1))))
      ⟨none, rfl, s3, by rw [upd_same, e6]⟩ ?_ ?_⟩
  · rintro u σ H' hu ⟨v7, rfl, s4, h6⟩
    rw [vI_len] at hu ⊢
    have hu' : u + 2 ≤ L.n := by omega
    have hm2 := s4 _ _ (sm _ _ hm)
    have hr2 := s4 _ _ (sm _ _ hr1)
    have hS2 := (s2.trans s4).seq hS
    have mp := L.Mp (L.n - 1 - u) (by omega)
    have mb := Z.mB (L.n - 1 - u) (by omega)
    have hh := Z.h (L.n - 1 - u) (by omega)
    have xb : B (six L u (L.n - u)) 1013 := by
      unfold six
      rw [if_pos (Nat.le_refl _)]
      exact Z.xB _ (by omega)
    refine ⟨_, rfl, _, rfl, r, _, _, _, rfl, rfl, SqL.of hr2, vI_at (L.n - 1 - u) (by omega) (by omega), _, rfl, _, _, rfl, rfl, mulOk (Z.sB _ (by omega)) Z.wB (by omega),
      _, rfl, _, rfl, _, _, rfl, rfl, m, _, _, _, rfl, rfl, SqL.of hm2, vI_at (L.n - 2 - u) (by omega) (by omega), _, rfl, _, rfl, a, _, _, _, rfl, rfl, hS2, vI_at (L.n - 1 - u) (by omega) (by omega), _, _, rfl, rfl, .inr ⟨by omega, by omega⟩,
      _, rfl, _, rfl, _, _, rfl, rfl, x, _, _, _, rfl, rfl, SqL.of h6, vI_at (L.n - u) (by omega) (by omega), _, _, rfl, rfl, mulOk ((Z.mB _ (by omega)).mul (Z.hB _ (by omega))) xb (by omega), _, _, rfl, rfl,
      _, rfl, _, rfl, m, _, _, _, rfl, rfl, SqL.of hm2, vI_at (L.n - 1 - u) (by omega) (by omega), _, _, rfl, rfl, ⟨mp, (mb.mono (by omega : 23 * (L.n - 1 - u) + 1 ≤ 9000)).lt⟩,
      _, rfl, _, rfl, x, _, _, L.n - 1 - u, rfl, rfl, h6, ?_, ?_⟩
    · unfold ixN
      rw [vI_len, if_pos (by omega), if_pos (by omega)]
      congr 1; omega
    · refine ⟨_, rfl, fun b o e => ?_, ?_⟩
      · rw [upd_ne (ne_of_none e hx)]; exact s4 b o e
      · rw [upd_same]
        have := six_val L hu'
        rw [← vI_set (f := six L u) (g := six L (u + 1)) (n := L.n + 1) (i := L.n - 1 - u) (by omega), ← this]
        intro j hj hne
        unfold six
        by_cases c : L.n - u ≤ j
        · rw [if_pos c, if_pos (by omega)]
        · rw [if_neg c, if_neg (by omega)]
  · rintro σ H' ⟨v7, rfl, s4, h6⟩
    rw [vI_len] at h6
    have e7 : vI (six L ((L.n : Int) - 1 - 0).toNat) (L.n + 1) = vI L.s (L.n + 1) := vI_congr fun j hj => by
      unfold six
      by_cases c : L.n - ((L.n : Int) - 1 - 0).toNat ≤ j
      · rw [if_pos c]
      · rw [if_neg c, show j = 0 by omega]; rfl
    rw [e7] at h6
    refine ⟨_, rfl, _, rfl, by show 2 ≤ sizeLine; decide, fun y hy => ?_⟩
    exact q y x _ ((s2.trans s4).trans (same_new hy _)) upd_same (by rw [upd_ne (ne_of_none h6 hy)]; exact h6) hx0
end
end PB

set_option Elab.async false
set_option linter.all false
set_option maxRecDepth 100000
set_option maxHeartbeats 4000000
namespace PB
open PySem PySem.Spec PyProof.Rows L2
open BM (B IsRoot hasI crestLe disc others sq minI maxI absI)
abbrev sCeil : Stmt := top 3
abbrev sSq : Stmt := top 6
abbrev sRoot : Stmt := top 7
abbrev sHas : Stmt := top 8
abbrev sCrest : Stmt := top 9
/-! ### rules that the layer lacks -/
section
variable {X : Cx}
def CPowB (i j : Int) : Prop := 0 ≤ j ∧ (Builtin.Int.intBits i : Int) * j ≤ 2 ^ 27
theorem op_powB : OpR X (binaryOp .Pow) (rI CPowB fun i j => .int (i ^ j.toNat)) := opI fun _ _ _ _ _ _ _ hc q => pow_int hc.1 hc.2 q
def rBits : V → List V → Hp → VK → Prop := fun x xs H Q => ∃ i : Int, x = .int i ∧ xs = [] ∧ Q (.int (Builtin.Int.intBits i : Nat)) H
theorem mt_bits : MtR X "int.bit_length" rBits := by
  intro pins s σ H x xs v us Q I rx r h
  obtain ⟨i, rfl, rfl, q⟩ := h
  obtain ⟨t, rfl⟩ := rx
  cases r
  exact call_int_bit_length ⟨.int (Builtin.Int.intBits i : Nat), H, I.tok _, ⟨_, rfl⟩, q⟩
end
theorem powB3 {x : Int} {m : Nat} (h : B x m) (hm : m ≤ 10000000) : CPowB x 3 := by
  refine ⟨by decide, ?_⟩
  have : Builtin.Int.intBits x ≤ m := intBits_le_iff.mpr h
  have e : (2 : Int) ^ 27 = 134217728 := by decide
  rw [e]
  omega
theorem B.pow3 {x : Int} {m : Nat} (h : B x m) : B (x ^ 3) (m + m + m) := by
  rw [show x ^ 3 = x * x * x by rw [Int.pow_succ, Int.pow_succ, Int.pow_succ, Int.pow_zero, Int.one_mul]]
  exact (h.mul h).mul h
theorem two (i : Int) : CFd i 2 := by
  refine ⟨by decide, ?_⟩
  have h : (2 : Int) ^ 1 < 2 ^ 9000 := by
    rw [two_pow_cast, two_pow_cast 9000]
    exact Int.ofNat_lt.mpr (Nat.pow_lt_pow_right (by decide) (by decide))
  rwa [Int.pow_one] at h
theorem boot_min : bootBuiltins "min" = some (.builtin "min") := by decide +kernel
theorem boot_max : bootBuiltins "max" = some (.builtin "max") := by decide +kernel
def spCeil : Sp := fun vs H Q _ => ∃ a b : Int, vs = [.int a, .int b] ∧ 0 < b ∧ b < 2 ^ 9000 ∧ Q (.int (-(-a / b))) H
def spSq : Sp := fun vs H Q _ => ∃ a : Int, vs = [.int a] ∧ B a 4000 ∧ Q (.int (sq a)) H
def spRoot : Sp := fun vs H Q _ => ∃ a : Int, vs = [.int a] ∧ 0 ≤ a ∧ B a 16000 ∧ ∀ r, IsRoot a r → Q (.int r) H
structure CubB (a b c d sc h : Int) : Prop where
  a : B a 1032
  b : B b 1058
  c : B c 1036
  d : B d 1014
  sc : B sc 1012
  h : B h 21
def spHas (K : PySem.W.Frag) : Sp := fun vs H Q _ => ∃ (t : Addr) (a b c d sc h : Int), vs = [.ref t, .int h] ∧ CubB a b c d sc h ∧ H t = some (.tup [.int a, .int b, .int c, .int d, .int sc]) ∧ ∀ k : Bool, (k = true ↔ hasI b c d h) → Q (.bl k) H
def spCrest (K : PySem.W.Frag) : Sp := fun vs H Q _ => ∃ (t : Addr) (a b c d sc h : Int), vs = [.ref t] ∧ CubB a b c d sc h ∧ 0 < sc ∧ hasI b c d h ∧ H t = some (.tup [.int a, .int b, .int c, .int d, .int sc]) ∧ ∀ m : Int, (∀ v, m ≤ v ↔ crestLe a b c d sc v) → Q (.int m) H
section
variable {P : Program} {w : World} {K : PySem.W.Frag} {mg : Str → Option Value} {base : Heap}
theorem scCeil : FnScope ["above", "below"] ["above", "below"] (defScope sCeil) := ⟨rfl, rfl, rfl, by decide +kernel, rfl, by decide +kernel, by decide +kernel⟩
theorem ok_ceil {f : Addr} {fd : FuncData} (F : Fun K "ceiling" "ceiling" sCeil f fd) : FnOk P w K mg base CX0 1 f fd ["above", "below"] spCeil := by
  refine F.ok scCeil (fun vs H Q E h => ?_) (fun cdv A outer s H vs Q E hr h => ?_)
  · obtain ⟨a, b, rfl, _⟩ := h; rfl
  obtain ⟨a, b, rfl, hb, hb2, q⟩ := h
  refine ⟨_, pss_one (ps_ret (pe_un un_neg (pe_op op_fdivB (pe_un un_neg (pv 0)) (pv 1)))), ?_⟩
  exact ⟨_, rfl, _, rfl, _, rfl, _, _, rfl, rfl, ⟨hb, hb2⟩, _, rfl, q⟩
theorem scSq : FnScope ["number"] ["number"] (defScope sSq) := ⟨rfl, rfl, rfl, by decide +kernel, rfl, by decide +kernel, by decide +kernel⟩
theorem absB {x : Int} {m : Nat} (h : B x m) : B (if x < 0 then -x else x) m := by split; exact h.neg; exact h
theorem ok_sq {f : Addr} {fd : FuncData} (F : Fun K "signed_square" "signed_square" sSq f fd) (mabs : mg "abs" = none) : FnOk P w K mg base CX0 1 f fd ["number"] spSq := by
  refine F.ok scSq (fun vs H Q E h => ?_) (fun cdv A outer s H vs Q E hr h => ?_)
  · obtain ⟨a, rfl, _⟩ := h; rfl
  obtain ⟨a, rfl, hb, q⟩ := h
  refine ⟨_, pss_one (ps_ret (pe_op op_mulB (pv 0) (pe_callB call_abs rfl mabs boot_abs (pa_cons (pv 0) pa_nil)))), ?_⟩
  exact ⟨_, rfl, _, rfl, _, rfl, _, _, rfl, rfl, mulOk hb (absB hb) (by omega), q⟩
theorem scRoot : FnScope ["number", "root", "step"] ["number"] (defScope sRoot) := ⟨rfl, rfl, rfl, by decide +kernel, rfl, by decide +kernel, by decide +kernel⟩
theorem root0 {a : Int} (h0 : 0 < a) (hb : B a 16000) : 1 ≤ (1 : Int) * 2 ^ ((((Builtin.Int.intBits a : Nat) : Int) + 1) / 2).toNat ∧ (1 : Int) * 2 ^ ((((Builtin.Int.intBits a : Nat) : Int) + 1) / 2).toNat < 2 ^ 9000 ∧ ((((Builtin.Int.intBits a : Nat) : Int) + 1) / 2) ≤ 1000000 ∧
    a < ((1 : Int) * 2 ^ ((((Builtin.Int.intBits a : Nat) : Int) + 1) / 2).toNat + 1) * ((1 : Int) * 2 ^ ((((Builtin.Int.intBits a : Nat) : Int) + 1) / 2).toNat + 1) := by
  have hi : Builtin.Int.intBits a ≤ 16000 := intBits_le_iff.mpr hb
  have hn : a.natAbs < 2 ^ Builtin.Int.intBits a := intBits_le_iff.mp (Nat.le_refl _)
  generalize Builtin.Int.intBits a = n at *
  have ek : (((n : Nat) : Int) + 1) / 2 = (((n + 1) / 2 : Nat) : Int) := by omega
  rw [ek, Int.toNat_natCast, Int.one_mul]
  have hk : n ≤ (n + 1) / 2 + (n + 1) / 2 := by omega
  have hk2 : (n + 1) / 2 < 9000 := by omega
  generalize (n + 1) / 2 = k at *
  have p1 : 1 ≤ (2 : Int) ^ k := by
    have := Nat.one_le_two_pow (n := k)
    rw [two_pow_cast]; omega
  refine ⟨p1, ?_, by omega, ?_⟩
  · have := Nat.pow_lt_pow_right (a := 2) (by decide) hk2
    rw [two_pow_cast, two_pow_cast 9000]
    exact Int.ofNat_lt.mpr this
  · have h1 : 2 ^ n ≤ 2 ^ k * 2 ^ k := by rw [← Nat.pow_add]; exact Nat.pow_le_pow_right (by decide) hk
    have h2 : ((a.natAbs : Nat) : Int) < ((2 ^ k * 2 ^ k : Nat) : Int) := Int.ofNat_lt.mpr (Nat.lt_of_lt_of_le hn h1)
    rw [Int.natCast_mul, ← two_pow_cast] at h2
    generalize (2 : Int) ^ k = r at *
    have : (r + 1) * (r + 1) = r * r + 2 * r + 1 := by grind
    omega
theorem ok_root {f : Addr} {fd : FuncData} (F : Fun K "root_ceiling" "root_ceiling" sRoot f fd) : FnOk P w K mg base CX0 1 f fd ["number"] spRoot := by
  refine F.ok scRoot (fun vs H Q E h => ?_) (fun cdv A outer s H vs Q E hr h => ?_)
  · obtain ⟨a, rfl, _⟩ := h; rfl
  obtain ⟨a, rfl, h0, hb, q⟩ := h
  refine ⟨_, pss_cons (ps_if (pt_cmpR op_eq (pv 0) pe_int (nomark _)) (pss_one (ps_ret pe_int)) pss_nil)
    (pss_cons (ps_set (i := 1) scRoot.nd rfl (Or.inl rfl) (pe_op op_shl pe_int (pe_op op_fdivB (pe_op op_add (pe_bm0 PySem.F.plainAttrs_int PySem.F.slot_int_bit_length PySem.F.type_int_bit_length mt_bits (pv 0)) pe_int) pe_int)))
    (pss_cons (ps_set (i := 2) scRoot.nd rfl (Or.inl rfl) (pe_op op_fdivB (pe_op op_add (pv 1) (pe_op op_fdivB (pv 0) (pv 1))) pe_int))
    (pss_cons (ps_while PassesOwn.never (pt_cmpR op_lt (pv 2) (pv 1) (nomark _))
      (pss_cons (ps_set (i := 1) scRoot.nd rfl (Or.inl rfl) (pv 2))
      (pss_one (ps_set (i := 2) scRoot.nd rfl (Or.inl rfl) (pe_op op_fdivB (pe_op op_add (pv 1) (pe_op op_fdivB (pv 0) (pv 1))) pe_int)))))
    (pss_cons (ps_if (pt_cmpR op_lt (pe_op op_mulB (pv 1) (pv 1)) (pv 0) (nomark _)) (pss_one (ps_ret (pe_op op_add (pv 1) pe_int))) pss_nil)
    (pss_one (ps_ret (pv 1))))))), ?_⟩
  refine ⟨_, rfl, rfl, _, rfl, ite2 (fun z => ?_) (fun z => ?_)⟩
  · have z' : V.int a = V.int 0 := of_decide_eq_true z
    injection z' with z'
    subst z'
    exact q 0 BM.isRoot_zero
  have a0 : ¬ a = 0 := fun e => of_decide_eq_false (Bool.eq_false_iff.mpr z) (congrArg V.int e)
  obtain ⟨r1, r2, r3, r4⟩ := root0 (by omega) hb
  refine ⟨_, rfl, rfl, a, rfl, rfl, _, _, rfl, rfl, _, _, rfl, rfl, two _, _, _, rfl, rfl, ⟨by omega, r3, by decide⟩, ?_⟩
  dsimp only
  generalize (1 : Int) * 2 ^ ((((Builtin.Int.intBits a : Nat) : Int) + 1) / 2).toNat = r0 at *
  refine ⟨_, rfl, _, rfl, _, rfl, _, _, rfl, rfl, ⟨by omega, r2⟩, _, _, rfl, rfl, _, _, rfl, rfl, two _, ?_⟩
  refine ⟨fun m σ H' => H' = H ∧ ∃ r : Int, m = r.toNat ∧ σ = [some (.int a), some (.int r), some (.int ((r + a / r) / 2))] ∧ 1 ≤ r ∧ r < 2 ^ 9000 ∧ a < (r + 1) * (r + 1), ⟨_, rfl, r0, rfl, rfl, r1, r2, r4⟩, ?_⟩
  rintro m σ H' ⟨rfl, r, rfl, rfl, p1, p2, p3⟩
  refine ⟨_, rfl, _, rfl, _, _, rfl, rfl, _, rfl, ite2 (fun z => ?_) (fun z => ?_)⟩
  · have z' : (r + a / r) / 2 < r := of_decide_eq_true z
    obtain ⟨n1, n2⟩ := BM.newton_step (show 1 ≤ a by omega) p1
    refine ⟨fun σ' H'' => H'' = H' ∧ ∃ r' : Int, r'.toNat < r.toNat ∧ σ' = [some (.int a), some (.int r'), some (.int ((r' + a / r') / 2))] ∧ 1 ≤ r' ∧ r' < 2 ^ 9000 ∧ a < (r' + 1) * (r' + 1), fun σ' H'' ⟨e, r', lt, h⟩ => ⟨_, lt, e, r', rfl, h⟩, ?_⟩
    refine ⟨_, rfl, _, rfl, _, rfl, _, rfl, _, _, rfl, rfl, ⟨by omega, by omega⟩, _, _, rfl, rfl, _, _, rfl, rfl, two _, ?_⟩
    exact ⟨rfl, (r + a / r) / 2, by omega, rfl, n1, by omega, n2⟩
  · have z' : ¬ (r + a / r) / 2 < r := of_decide_eq_false (Bool.eq_false_iff.mpr z)
    have le := BM.newton_end p1 z'
    have rb : B r 9000 := B.of (by omega) p2
    refine ⟨_, rfl, _, rfl, _, _, rfl, rfl, mulOk rb rb (by omega), _, rfl, _, _, rfl, rfl, _, rfl, ite2 (fun y => ?_) (fun y => ?_)⟩
    · have y' : r * r < a := of_decide_eq_true y
      exact ⟨_, rfl, _, _, rfl, rfl, q _ (BM.isRoot_up (by omega) y' p3)⟩
    · have y' : ¬ r * r < a := of_decide_eq_false (Bool.eq_false_iff.mpr y)
      exact ⟨_, rfl, q _ (BM.isRoot_same p1 le y')⟩
/-! ### has_crest -/
theorem scHas : FnScope ["cubic", "gap", "b", "c", "d", "square", "first", "last"] ["cubic", "gap"] (defScope sHas) := ⟨rfl, rfl, rfl, by decide +kernel, rfl, by decide +kernel, by decide +kernel⟩
theorem small3 : (-(2 ^ 64) < (3 : Int) ∧ (3 : Int) < 2 ^ 64) := ⟨by decide, by decide⟩
theorem CubB.three {a b c d sc h : Int} (Z : CubB a b c d sc h) : B (3 * b) 1060 := ((show B 3 2 by unfold B; decide).mul Z.b).mono (by omega)
theorem CubB.disc {a b c d sc h : Int} (Z : CubB a b c d sc h) : B (disc b c d) 2075 := by
  have h1 := (Z.c.mul Z.c).mono (show 1036 + 1036 ≤ 2074 by omega)
  have h2 := (Z.three.mul Z.d).mono (show 1060 + 1014 ≤ 2074 by omega)
  exact h1.sub h2
theorem CubB.last {a b c d sc h : Int} (Z : CubB a b c d sc h) : B (c + 3 * d * h) 1038 := by
  have h3 : B (3 * d) 1016 := ((show B 3 2 by unfold B; decide).mul Z.d).mono (by omega)
  have h1 := Z.c.mono (show 1036 ≤ 1037 by omega)
  have h2 := (h3.mul Z.h).mono (show 1016 + 21 ≤ 1037 by omega)
  exact h1.add h2
theorem CubB.hs {a b c d sc h : Int} (Z : CubB a b c d sc h) : -(2 ^ 64) < h ∧ h < 2 ^ 64 := by
  have := Z.h
  unfold B at this
  omega
theorem and_has {P1 P2 P3 : Prop} [Decidable P1] [Decidable P2] [Decidable P3] {Q : Bool → Prop} (h : ∀ k : Bool, (k = true ↔ P1 ∧ P2 ∧ P3) → Q k) :
    if decide P1 = true then (if decide P2 = true then Q (decide P3) else Q false) else Q false := by
  by_cases h1 : P1
  · rw [if_pos (decide_eq_true h1)]
    by_cases h2 : P2
    · rw [if_pos (decide_eq_true h2)]
      exact h _ (by simp [h1, h2])
    · rw [if_neg (by simp [h2])]
      exact h _ (by simp [h2])
  · rw [if_neg (by simp [h1])]
    exact h _ (by simp [h1])
theorem ok_has {f g : Addr} {fd gd : FuncData} (F : Fun K "has_crest" "has_crest" sHas f fd) (G : Fun K "signed_square" "signed_square" sSq g gd) (bG : Binds K gd ["number"] []) (mG : mg "signed_square" = some (.ref g)) (mabs : mg "abs" = none) (mmin : mg "min" = none) (mmax : mg "max" = none) :
    FnOk P w K mg base CX0 2 f fd ["cubic", "gap"] (spHas K) := by
  have GG : FnOk P w K mg base CX0 1 g gd ["number"] spSq := ok_sq G mabs
  refine F.ok scHas (fun vs H Q E h => ?_) (fun cdv A outer s H vs Q E hr h => ?_)
  · obtain ⟨t, a, b, c, d, sc, h, rfl, _⟩ := h; rfl
  obtain ⟨t, a, b, c, d, sc, h, rfl, Z, ht, q⟩ := h
  refine ⟨_, pss_cons (ps_set (i := 2) scHas.nd rfl (Or.inl rfl) (pe_ix ix_tup (pv 0) pe_int (fun _ _ => rfl)))
    (pss_cons (ps_set (i := 3) scHas.nd rfl (Or.inl rfl) (pe_ix ix_tup (pv 0) pe_int (fun _ _ => rfl)))
    (pss_cons (ps_set (i := 4) scHas.nd rfl (Or.inl rfl) (pe_ix ix_tup (pv 0) pe_int (fun _ _ => rfl)))
    (pss_cons (ps_if (pt_cmpR op_eq (pv 4) pe_int (nomark _)) (pss_one (ps_ret (pe_and (pe_cmpR op_lt (pv 3) pe_int (nomark _)) (pe_and (pe_cmpR op_ge (pv 2) pe_int (nomark _)) (pe_one (pe_cmpR op_le (pe_op op_add (pv 2) (pe_op op_mul (pe_op op_mul pe_int (pv 3)) (pv 1))) pe_int (nomark _))))))) pss_nil)
    (pss_cons (ps_set (i := 5) scHas.nd rfl (Or.inl rfl) (pe_op op_sub (pe_op op_mulB (pv 3) (pv 3)) (pe_op op_mulB (pe_op op_mul pe_int (pv 2)) (pv 4))))
    (pss_cons (ps_set (i := 6) scHas.nd rfl (Or.inl rfl) (pe_call GG hr rfl mG G.kp bG .nil pass0 (pa_cons (pv 3) pa_nil)))
    (pss_cons (ps_set (i := 7) scHas.nd rfl (Or.inl rfl) (pe_call GG hr rfl mG G.kp bG .nil pass0 (pa_cons (pe_op op_add (pv 3) (pe_op op_mul (pe_op op_mul pe_int (pv 4)) (pv 1))) pa_nil)))
    (pss_one (ps_ret (pe_and (pe_cmpR op_ge (pv 5) pe_int (nomark _)) (pe_one (pe_chain op_le op_le (pe_callB (call_min2 rfl) rfl mmin boot_min (pa_cons (pv 6) (pa_cons (pv 7) pa_nil))) (pe_un un_neg (pv 5)) (pe_callB (call_max2 rfl) rfl mmax boot_max (pa_cons (pv 6) (pa_cons (pv 7) pa_nil)))))))))))))), ?_⟩
  refine ⟨_, rfl, t, _, _, _, rfl, rfl, SqT.of ht, rfl, _, rfl, t, _, _, _, rfl, rfl, SqT.of ht, rfl, _, rfl, t, _, _, _, rfl, rfl, SqT.of ht, rfl, ?_⟩
  refine ⟨_, rfl, rfl, _, rfl, ite2 (fun z => ?_) (fun z => ?_)⟩
  · have z' : V.int d = V.int 0 := of_decide_eq_true z
    injection z' with z'
    subst z'
    refine ⟨_, rfl, _, _, rfl, rfl, _, rfl, ?_⟩
    have q' : ∀ k : Bool, (k = true ↔ c < 0 ∧ 0 ≤ b ∧ b + 2 * c * h ≤ 0) → Q (.bl k) H := fun k hk => q k (hk.trans ⟨fun y => .inl ⟨rfl, y⟩, fun y => by
      rcases y with ⟨_, y⟩ | ⟨y, _⟩
      · exact y
      · exact absurd rfl y⟩)
    refine ite2 (fun y => ?_) (fun y => ?_)
    · have y' : c < 0 := of_decide_eq_true y
      refine ⟨_, rfl, _, _, rfl, rfl, _, rfl, ite2 (fun x => ?_) (fun x => ?_)⟩
      · have x' : 0 ≤ b := of_decide_eq_true x
        refine ⟨_, rfl, _, rfl, _, _, rfl, rfl, .inl ⟨by decide, by decide⟩, _, rfl, _, _, rfl, rfl, .inr Z.hs, _, _, rfl, rfl, _, _, rfl, rfl, q' _ ?_⟩
        rw [decide_eq_true_eq]
        exact ⟨fun e => ⟨y', x', e⟩, fun e => e.2.2⟩
      · have x' : ¬ 0 ≤ b := of_decide_eq_false (Bool.eq_false_iff.mpr x)
        exact q' _ ⟨fun e => (nomatch e), fun e => absurd e.2.1 x'⟩
    · have y' : ¬ c < 0 := of_decide_eq_false (Bool.eq_false_iff.mpr y)
      exact q' _ ⟨fun e => (nomatch e), fun e => absurd e.1 y'⟩
  have d0 : ¬ d = 0 := fun e => of_decide_eq_false (Bool.eq_false_iff.mpr z) (congrArg V.int e)
  refine ⟨_, rfl, _, rfl, _, _, rfl, rfl, mulOk Z.c Z.c (by omega), _, rfl, _, _, rfl, rfl, .inl small3, _, rfl, _, _, rfl, rfl, mulOk Z.three Z.d (by omega), _, _, rfl, rfl, ?_⟩
  refine ⟨_, rfl, c, rfl, Z.c.mono (by omega), ?_⟩
  refine ⟨_, rfl, _, rfl, _, _, rfl, rfl, .inl small3, _, rfl, _, _, rfl, rfl, .inr Z.hs, _, _, rfl, rfl, c + 3 * d * h, rfl, Z.last.mono (by omega), ?_⟩
  have q' : ∀ k : Bool, (k = true ↔ 0 ≤ disc b c d ∧ minI (sq c) (sq (c + 3 * d * h)) ≤ -disc b c d ∧ -disc b c d ≤ maxI (sq c) (sq (c + 3 * d * h))) → Q (.bl k) H := fun k hk => q k (hk.trans ⟨fun y => .inr ⟨d0, y⟩, fun y => by
      rcases y with ⟨y, _⟩ | ⟨_, y⟩
      · exact absurd y d0
      · exact y⟩)
  refine ⟨_, rfl, _, _, rfl, rfl, _, rfl, ite2 (fun y => ?_) (fun y => ?_)⟩
  · have y' : 0 ≤ disc b c d := of_decide_eq_true y
    refine ⟨_, rfl, _, rfl, _, _, rfl, _, rfl, _, rfl, _, _, rfl, rfl, _, rfl, ite2 (fun x => ?_) (fun x => ?_)⟩
    · have x' : minI (sq c) (sq (c + 3 * d * h)) ≤ -disc b c d := of_decide_eq_true x
      refine ⟨_, rfl, _, rfl, _, _, rfl, _, _, rfl, rfl, q' _ ?_⟩
      rw [decide_eq_true_eq]
      exact ⟨fun e => ⟨y', x', e⟩, fun e => e.2.2⟩
    · have x' : ¬ minI (sq c) (sq (c + 3 * d * h)) ≤ -disc b c d := of_decide_eq_false (Bool.eq_false_iff.mpr x)
      exact q' _ ⟨fun e => (nomatch e), fun e => absurd e.2.1 x'⟩
  · have y' : ¬ 0 ≤ disc b c d := of_decide_eq_false (Bool.eq_false_iff.mpr y)
    exact q' _ ⟨fun e => (nomatch e), fun e => absurd e.1 y'⟩
/-! ### crest_ceiling -/
theorem scCrest : FnScope ["cubic", "a", "b", "c", "d", "scale", "others", "raised"] ["cubic"] (defScope sCrest) := ⟨rfl, rfl, rfl, by decide +kernel, rfl, by decide +kernel, by decide +kernel⟩
theorem lt9000 {x : Int} {m : Nat} (h : B x m) (hm : m ≤ 9000) : x < 2 ^ 9000 := (h.mono hm).lt
theorem crest_flat {a b c sc v : Int} (hd : (0 : Int) < -4 * c * sc) : -(-(b * b - 4 * a * c) / (-4 * c * sc)) ≤ v ↔ crestLe a b c 0 sc v := by
  rw [BM.ceilI_le hd]
  exact ⟨fun h => ⟨fun _ => h, fun e => absurd rfl e⟩, fun h => h.1 rfl⟩
theorem crest_turn {a b c d sc v r : Int} (h0 : ¬ d = 0) (hd : (0 : Int) < 27 * d * d * sc) (hr : IsRoot (4 * disc b c d ^ 3) r) : -(-(r + others a b c d) / (27 * d * d * sc)) ≤ v ↔ crestLe a b c d sc v := by
  rw [BM.ceilI_le hd]
  have := hr (v * (27 * d * d * sc) - others a b c d)
  constructor
  · intro h
    exact ⟨fun e => absurd e h0, fun _ => this.mp (by omega)⟩
  · intro h
    have := this.mpr (h.2 h0)
    omega
theorem ok_crest {f g1 g2 : Addr} {fd d1 d2 : FuncData} (F : Fun K "crest_ceiling" "crest_ceiling" sCrest f fd) (G1 : Fun K "ceiling" "ceiling" sCeil g1 d1) (b1 : Binds K d1 ["above", "below"] []) (m1 : mg "ceiling" = some (.ref g1))
    (G2 : Fun K "root_ceiling" "root_ceiling" sRoot g2 d2) (b2 : Binds K d2 ["number"] []) (m2 : mg "root_ceiling" = some (.ref g2)) :
    FnOk P w K mg base CX0 2 f fd ["cubic"] (spCrest K) := by
  have H1 : FnOk P w K mg base CX0 1 g1 d1 ["above", "below"] spCeil := ok_ceil G1
  have H2 : FnOk P w K mg base CX0 1 g2 d2 ["number"] spRoot := ok_root G2
  refine F.ok scCrest (fun vs H Q E h => ?_) (fun cdv A outer s H vs Q E hr h => ?_)
  · obtain ⟨t, a, b, c, d, sc, h, rfl, _⟩ := h; rfl
  obtain ⟨t, a, b, c, d, sc, h, rfl, Z, sp, hh, ht, q⟩ := h
  refine ⟨_, pss_cons (ps_set (i := 1) scCrest.nd rfl (Or.inl rfl) (pe_ix ix_tup (pv 0) pe_int (fun _ _ => rfl)))
    (pss_cons (ps_set (i := 2) scCrest.nd rfl (Or.inl rfl) (pe_ix ix_tup (pv 0) pe_int (fun _ _ => rfl)))
    (pss_cons (ps_set (i := 3) scCrest.nd rfl (Or.inl rfl) (pe_ix ix_tup (pv 0) pe_int (fun _ _ => rfl)))
    (pss_cons (ps_set (i := 4) scCrest.nd rfl (Or.inl rfl) (pe_ix ix_tup (pv 0) pe_int (fun _ _ => rfl)))
    (pss_cons (ps_set (i := 5) scCrest.nd rfl (Or.inl rfl) (pe_ix ix_tup (pv 0) pe_int (fun _ _ => rfl)))
    (pss_cons (ps_if (pt_cmpR op_eq (pv 4) pe_int (nomark _)) (pss_one (ps_ret (pe_call H1 hr rfl m1 G1.kp b1 .nil pass0 (pa_cons (pe_op op_sub (pe_op op_mulB (pv 2) (pv 2)) (pe_op op_mulB (pe_op op_mul pe_int (pv 1)) (pv 3))) (pa_cons (pe_op op_mulB (pe_op op_mul (pe_un un_neg pe_int) (pv 3)) (pv 5)) pa_nil))))) pss_nil)
    (pss_cons (ps_set (i := 6) scCrest.nd rfl (Or.inl rfl) (pe_op op_add (pe_op op_sub (pe_op op_mulB (pe_op op_mulB (pe_op op_mul pe_int (pv 1)) (pv 4)) (pv 4)) (pe_op op_mulB (pe_op op_mulB (pe_op op_mul pe_int (pv 2)) (pv 3)) (pv 4))) (pe_op op_mul pe_int (pe_op op_powB (pv 3) pe_int))))
    (pss_cons (ps_set (i := 7) scCrest.nd rfl (Or.inl rfl) (pe_call H2 hr rfl m2 G2.kp b2 .nil pass0 (pa_cons (pe_op op_mul pe_int (pe_op op_powB (pe_op op_sub (pe_op op_mulB (pv 3) (pv 3)) (pe_op op_mulB (pe_op op_mul pe_int (pv 2)) (pv 4))) pe_int)) pa_nil)))
    (pss_one (ps_ret (pe_call H1 hr rfl m1 G1.kp b1 .nil pass0 (pa_cons (pe_op op_add (pv 7) (pv 6)) (pa_cons (pe_op op_mulB (pe_op op_mulB (pe_op op_mul pe_int (pv 4)) (pv 4)) (pv 5)) pa_nil)))))))))))), ?_⟩
  have s4 : (-(2 ^ 64) < (4 : Int) ∧ (4 : Int) < 2 ^ 64) := ⟨by decide, by decide⟩
  have sm4 : (-(2 ^ 64) < (-4 : Int) ∧ (-4 : Int) < 2 ^ 64) := ⟨by decide, by decide⟩
  have s27 : (-(2 ^ 64) < (27 : Int) ∧ (27 : Int) < 2 ^ 64) := ⟨by decide, by decide⟩
  have s9 : (-(2 ^ 64) < (9 : Int) ∧ (9 : Int) < 2 ^ 64) := ⟨by decide, by decide⟩
  have s2 : (-(2 ^ 64) < (2 : Int) ∧ (2 : Int) < 2 ^ 64) := ⟨by decide, by decide⟩
  have a4 : B (4 * a) 1035 := ((show B 4 3 by unfold B; decide).mul Z.a).mono (by omega)
  have c4 : B (-4 * c) 1039 := ((show B (-4) 3 by unfold B; decide).mul Z.c).mono (by omega)
  have a27 : B (27 * a) 1037 := ((show B 27 5 by unfold B; decide).mul Z.a).mono (by omega)
  have a27d : B (27 * a * d) 2051 := (a27.mul Z.d).mono (by omega)
  have b9 : B (9 * b) 1062 := ((show B 9 4 by unfold B; decide).mul Z.b).mono (by omega)
  have b9c : B (9 * b * c) 2098 := (b9.mul Z.c).mono (by omega)
  have d27 : B (27 * d) 1019 := ((show B 27 5 by unfold B; decide).mul Z.d).mono (by omega)
  have d27d : B (27 * d * d) 2033 := (d27.mul Z.d).mono (by omega)
  refine ⟨_, rfl, t, _, _, _, rfl, rfl, SqT.of ht, rfl, _, rfl, t, _, _, _, rfl, rfl, SqT.of ht, rfl, _, rfl, t, _, _, _, rfl, rfl, SqT.of ht, rfl, _, rfl, t, _, _, _, rfl, rfl, SqT.of ht, rfl, _, rfl, t, _, _, _, rfl, rfl, SqT.of ht, rfl, ?_⟩
  refine ⟨_, rfl, rfl, _, rfl, ite2 (fun z => ?_) (fun z => ?_)⟩
  · have z' : V.int d = V.int 0 := of_decide_eq_true z
    injection z' with z'
    subst z'
    have c0 : c < 0 := by
      rcases hh with ⟨_, y, _⟩ | ⟨y, _⟩
      · exact y
      · exact absurd rfl y
    have dp : (0 : Int) < -4 * c * sc := Int.mul_pos (by omega) sp
    refine ⟨_, rfl, _, rfl, _, _, rfl, rfl, mulOk Z.b Z.b (by omega), _, rfl, _, _, rfl, rfl, .inl s4, _, rfl, _, _, rfl, rfl, mulOk a4 Z.c (by omega), _, _, rfl, rfl, _, rfl, _, rfl, _, _, rfl, rfl, .inl sm4, _, rfl, _, _, rfl, rfl, mulOk c4 Z.sc (by omega), _, _, rfl, dp, lt9000 (c4.mul Z.sc) (by omega), ?_⟩
    exact q _ fun v => crest_flat dp
  have d0 : ¬ d = 0 := fun e => of_decide_eq_false (Bool.eq_false_iff.mpr z) (congrArg V.int e)
  have s0 : 0 ≤ disc b c d := by
    rcases hh with ⟨y, _⟩ | ⟨_, y, _⟩
    · exact absurd y d0
    · exact y
  have dd : 0 < d * d := by
    rcases Int.lt_or_gt_of_ne d0 with y | y
    · exact Int.mul_pos_of_neg_of_neg y y
    · exact Int.mul_pos y y
  have dp : (0 : Int) < 27 * d * d * sc := Int.mul_pos (by rw [Int.mul_assoc]; omega) sp
  refine ⟨_, rfl, _, _, rfl, rfl, .inl s27, _, rfl, _, _, rfl, rfl, mulOk a27 Z.d (by omega), _, rfl, _, _, rfl, rfl, mulOk a27d Z.d (by omega), _, rfl, _, _, rfl, rfl, .inl s9, _, rfl, _, _, rfl, rfl, mulOk b9 Z.c (by omega), _, rfl, _, _, rfl, rfl, mulOk b9c Z.d (by omega), _, _, rfl, rfl, _, rfl, _, _, rfl, rfl, powB3 Z.c (by omega), _, _, rfl, rfl, .inl s2, _, _, rfl, rfl, ?_⟩
  have d3 : B (4 * disc b c d ^ 3) 16000 := ((show B 4 3 by unfold B; decide).mul (B.pow3 Z.disc)).mono (by omega)
  have n3 : 0 ≤ 4 * disc b c d ^ 3 := by
    rw [show disc b c d ^ 3 = disc b c d * disc b c d * disc b c d by rw [Int.pow_succ, Int.pow_succ, Int.pow_succ, Int.pow_zero, Int.one_mul]]
    have := BM.cube_nn s0
    omega
  refine ⟨_, rfl, _, rfl, _, _, rfl, rfl, mulOk Z.c Z.c (by omega), _, rfl, _, _, rfl, rfl, .inl small3, _, rfl, _, _, rfl, rfl, mulOk Z.three Z.d (by omega), _, _, rfl, rfl, _, _, rfl, rfl, powB3 Z.disc (by omega), _, _, rfl, rfl, .inl s4, 4 * disc b c d ^ 3, rfl, n3, d3, fun r hr => ?_⟩
  refine ⟨_, rfl, _, rfl, _, _, rfl, rfl, _, rfl, _, _, rfl, rfl, .inl s27, _, rfl, _, _, rfl, rfl, mulOk d27 Z.d (by omega), _, rfl, _, _, rfl, rfl, mulOk d27d Z.sc (by omega), r + others a b c d, 27 * d * d * sc, rfl, dp, lt9000 (d27d.mul Z.sc) (by omega), ?_⟩
  exact q _ fun v => crest_turn d0 dp hr
end
end PB

set_option Elab.async false
set_option linter.all false
set_option maxRecDepth 100000
set_option maxHeartbeats 4000000
namespace PB
open PySem PySem.Spec PyProof.Rows L2
/-! ### fields -/
theorem putF_putF (f : Str) (v u : V) : ∀ fs : List (Str × V), putF f v (putF f u fs) = putF f v fs
  | [] => by
    show (if f = f then [(f, v)] else _) = [(f, v)]
    rw [if_pos rfl]
  | (g, x) :: r => by
    show putF f v (if g = f then (g, u) :: r else (g, x) :: putF f u r) = (if g = f then (g, v) :: r else (g, x) :: putF f v r)
    by_cases h : g = f
    · rw [if_pos h, if_pos h]
      show (if g = f then (g, v) :: r else _) = _
      rw [if_pos h]
    · rw [if_neg h, if_neg h]
      show (if g = f then _ else (g, x) :: putF f v (putF f u r)) = _
      rw [if_neg h, putF_putF f v u r]
theorem putF_len (f : Str) (v : V) : ∀ fs : List (Str × V), (putF f v fs).length ≤ fs.length + 1
  | [] => Nat.le_refl _
  | (g, x) :: r => by
    show (if g = f then (g, v) :: r else (g, x) :: putF f v r).length ≤ _
    by_cases h : g = f
    · rw [if_pos h]; exact Nat.le_succ _
    · rw [if_neg h]; exact Nat.succ_le_succ (putF_len f v r)
/-- all that is not at p is as it was -/
def But (p : Addr) (H H' : Hp) : Prop := ∀ b o, H b = some o → b ≠ p → H' b = some o
theorem But.seq {K : PySem.W.Frag} {p : Addr} {H H' : Hp} {a : Addr} {xs : List V} (e : But p H H') {C dx : Addr} {fs : List (Str × V)} (hp : H p = some (.ins C dx fs)) (h : SqL K H a xs) : SqL K H' a xs := by
  rcases h with (h | ⟨o, h⟩) | h
  · exact .inl (.inl (e _ _ h (ne_of h hp (by intro q; cases q))))
  · exact .inl (.inr ⟨o, e _ _ h (ne_of h hp (by intro q; cases q))⟩)
  · exact .inr h
theorem But.upd {p : Addr} {H : Hp} {o : HO} : But p H (L2.upd H p o) := fun b u e hb => by rw [upd_ne hb]; exact e
theorem But.trans {p : Addr} {H H1 H2 : Hp} (a : But p H H1) (b : But p H1 H2) : But p H H2 := fun c o h hc => b c o (a c o h hc) hc
theorem But.same {p : Addr} {H H1 H2 : Hp} (a : But p H H1) (b : Same H1 H2) : But p H H2 := fun c o h hc => b c o (a c o h hc)
/-! ### Reader -/
abbrev sRdInit : Stmt := inClass (top 17) 0
abbrev sRdEnd : Stmt := inClass (top 17) 1
abbrev sRdNum : Stmt := inClass (top 17) 2
abbrev sRdRow : Stmt := inClass (top 17) 3
def rdF (l : Addr) (z : Int) : List (Str × V) := putF "spot" (.int z) (putF "calls" (.ref l) [])
theorem rd_calls (l : Addr) (z : Int) : (rdF l z).lookup ("calls" : Str) = some (.ref l) := by
  unfold rdF; rw [lookup_putF, if_neg (by decide +kernel), lookup_putF, if_pos rfl]
theorem rd_spot (l : Addr) (z : Int) : (rdF l z).lookup ("spot" : Str) = some (.int z) := by
  unfold rdF; rw [lookup_putF, if_pos rfl]
theorem rd_no (l : Addr) (z : Int) {m : Str} (h1 : ¬ m = "calls") (h2 : ¬ m = "spot") : (rdF l z).lookup m = none := by
  unfold rdF; rw [lookup_putF, if_neg h2, lookup_putF, if_neg h1]; rfl
theorem rd_put (l : Addr) (z y : Int) : putF "spot" (.int y) (rdF l z) = rdF l y := putF_putF _ _ _ _
theorem rd_len (l : Addr) (z : Int) : (rdF l z).length < 1000 := by
  have := putF_len "spot" (.int z) (putF "calls" (.ref l) [])
  have := putF_len "calls" (.ref l) []
  unfold rdF
  simp at *
  omega
structure RdC (K : PySem.W.Frag) (C : Addr) : Prop where
  cl : Cls K C
  nC : NoAttr K C "calls"
  nS : NoAttr K C "spot"
def spRdInit (C : Addr) : Sp := fun vs H Q _ => ∃ p dx l, vs = [.ref p, .ref l] ∧ H p = some (.ins C dx []) ∧ ∀ H', H' p = some (.ins C dx (rdF l 0)) → But p H H' → Q .non H'
def spRdEnd (C : Addr) (K : PySem.W.Frag) : Sp := fun vs H Q _ => ∃ (p dx l : Addr) (ns : List Int) (z : Int), vs = [.ref p] ∧ H p = some (.ins C dx (rdF l z)) ∧ SqL K H l (ns.map V.int) ∧ Q (.bl (decide ((ns.length : Int) ≤ z))) H
def spRdNum (C : Addr) (K : PySem.W.Frag) : Sp := fun vs H Q _ => ∃ (p dx l : Addr) (ns : List Int) (i : Nat) (v : Int), vs = [.ref p] ∧ H p = some (.ins C dx (rdF l i)) ∧ SqL K H l (ns.map V.int) ∧ ns[i]? = some v ∧
  ∀ H', H' p = some (.ins C dx (rdF l (i + 1 : Nat))) → But p H H' → (∀ b, H b = none → H' b = none) → Q (.int v) H'
def spRdRow (C : Addr) (K : PySem.W.Frag) : Sp := fun vs H Q _ => ∃ (p dx l : Addr) (ns : List Int) (i n : Nat), vs = [.ref p] ∧ H p = some (.ins C dx (rdF l i)) ∧ SqL K H l (ns.map V.int) ∧ ns[i]? = some (n : Int) ∧ i + 1 + n ≤ ns.length ∧
  ∀ q H', H' p = some (.ins C dx (rdF l (i + 1 + n : Nat))) → But p H H' → H q = none → H' q = some (.lst (((ns.drop (i + 1)).take n).map V.int)) → Q (.ref q) H'
section
variable {P : Program} {w : World} {K : PySem.W.Frag} {mg : Str → Option Value} {base : Heap}
theorem scRdInit : FnScope ["self", "calls"] ["self", "calls"] (defScope sRdInit) := ⟨rfl, rfl, rfl, by decide +kernel, rfl, by decide +kernel, by decide +kernel⟩
theorem ok_rdInit {f C : Addr} {fd : FuncData} (F : Fun K "__init__" "Reader.__init__" sRdInit f fd) (T : RdC K C) : FnOk P w K mg base CX0 1 f fd ["self", "calls"] (spRdInit C) := by
  refine F.ok scRdInit (fun vs H Q E h => ?_) (fun cdv A outer s H vs Q E hr h => ?_)
  · obtain ⟨p, dx, l, rfl, _⟩ := h; rfl
  obtain ⟨p, dx, l, rfl, hp, k⟩ := h
  refine ⟨_, pss_cons (ps_fld (pv 0) (pv 1) rfl) (pss_one (ps_fld (pv 0) pe_int rfl)), ?_⟩
  refine ⟨_, rfl, _, rfl, p, C, dx, _, rfl, hp, T.cl, T.nC, (by show 0 < 1000; decide), ?_⟩
  refine ⟨_, rfl, p, C, dx, _, rfl, upd_same, T.cl, T.nS, Nat.lt_of_le_of_lt (putF_len _ _ _) (by decide), ?_⟩
  exact k _ upd_same (But.upd.trans But.upd)
theorem scRdEnd : FnScope ["self"] ["self"] (defScope sRdEnd) := ⟨rfl, rfl, rfl, by decide +kernel, rfl, by decide +kernel, by decide +kernel⟩
theorem ok_rdEnd {f C : Addr} {fd : FuncData} (F : Fun K "ended" "Reader.ended" sRdEnd f fd) (T : RdC K C) (ml : mg "len" = none) : FnOk P w K mg base CX0 1 f fd ["self"] (spRdEnd C K) := by
  refine F.ok scRdEnd (fun vs H Q E h => ?_) (fun cdv A outer s H vs Q E hr h => ?_)
  · obtain ⟨p, dx, l, ns, z, rfl, _⟩ := h; rfl
  obtain ⟨p, dx, l, ns, z, rfl, hp, hS, k⟩ := h
  refine ⟨_, pss_one (ps_ret (pe_cmpR op_ge (pe_fld (pv 0) rfl) (pe_callB call_len_seq rfl ml PySem.boot_len (pa_cons (pe_fld (pv 0) rfl) pa_nil)) (nomark _))), ?_⟩
  refine ⟨_, rfl, p, C, dx, _, _, rfl, hp, T.cl, T.nS, rd_spot _ _, _, rfl, p, C, dx, _, _, rfl, hp, T.cl, T.nC, rd_calls _ _, l, _, rfl, .inl hS, _, _, rfl, rfl, ?_⟩
  rw [List.length_map]
  exact k
theorem scRdNum : FnScope ["self", "found"] ["self"] (defScope sRdNum) := ⟨rfl, rfl, rfl, by decide +kernel, rfl, by decide +kernel, by decide +kernel⟩
theorem ok_rdNum {f C : Addr} {fd : FuncData} (F : Fun K "number" "Reader.number" sRdNum f fd) (T : RdC K C) : FnOk P w K mg base CX0 1 f fd ["self"] (spRdNum C K) := by
  refine F.ok scRdNum (fun vs H Q E h => ?_) (fun cdv A outer s H vs Q E hr h => ?_)
  · obtain ⟨p, dx, l, ns, i, v, rfl, _⟩ := h; rfl
  obtain ⟨p, dx, l, ns, i, v, rfl, hp, hS, hi, k⟩ := h
  refine ⟨_, pss_cons (ps_set (i := 1) scRdNum.nd rfl (Or.inl rfl) (pe_ix ix_list (pe_fld (pv 0) rfl) (pe_fld (pv 0) rfl) (fun _ _ => rfl)))
    (pss_cons (ps_fld (pv 0) (pe_op op_add (pe_fld (pv 0) rfl) pe_int) rfl) (pss_one (ps_ret (pv 1)))), ?_⟩
  refine ⟨_, rfl, p, C, dx, _, _, rfl, hp, T.cl, T.nC, rd_calls _ _, _, rfl, p, C, dx, _, _, rfl, hp, T.cl, T.nS, rd_spot _ _, l, _, _, _, rfl, rfl, hS, atI_nat (v := V.int v) (by rw [List.getElem?_map, hi]; rfl), ?_⟩
  refine ⟨_, rfl, p, C, dx, _, _, rfl, hp, T.cl, T.nS, rd_spot _ _, _, _, rfl, rfl, _, rfl, p, C, dx, _, rfl, hp, T.cl, T.nS, rd_len _ _, ?_⟩
  refine ⟨_, rfl, ?_⟩
  rw [rd_put]
  exact k _ upd_same But.upd fun b hb => by rw [upd_ne (fun q => by rw [q, hp] at hb; cases hb)]; exact hb
theorem scRdRow : FnScope ["self", "many", "start"] ["self"] (defScope sRdRow) := ⟨rfl, rfl, rfl, by decide +kernel, rfl, by decide +kernel, by decide +kernel⟩
theorem ok_rdRow {f g C : Addr} {fd gd : FuncData} (F : Fun K "row" "Reader.row" sRdRow f fd) (T : RdC K C) (G : Fun K "number" "Reader.number" sRdNum g gd) (bG : Binds K gd ["self"] []) (mG : Meth K C "number" g) : FnOk P w K mg base CX0 2 f fd ["self"] (spRdRow C K) := by
  have GG : FnOk P w K mg base CX0 1 g gd ["self"] (spRdNum C K) := ok_rdNum G T
  refine F.ok scRdRow (fun vs H Q E h => ?_) (fun cdv A outer s H vs Q E hr h => ?_)
  · obtain ⟨p, dx, l, ns, i, n, rfl, _⟩ := h; rfl
  obtain ⟨p, dx, l, ns, i, n, rfl, hp, hS, hi, hn, k⟩ := h
  refine ⟨_, pss_cons (ps_set (i := 1) scRdRow.nd rfl (Or.inl rfl) (pe_meth0 (pv 0) T.cl mG GG hr bG .nil pass0))
    (pss_cons (ps_set (i := 2) scRdRow.nd rfl (Or.inl rfl) (pe_fld (pv 0) rfl))
    (pss_cons (ps_fld (pv 0) (pe_op op_add (pv 2) (pv 1)) rfl)
    (pss_one (ps_ret (pe_slice sl_list (pe_fld (pv 0) rfl) (po_some (pv 2)) (po_some (pe_fld (pv 0) rfl))))))), ?_⟩
  refine ⟨_, rfl, p, dx, _, rfl, hp, rd_no _ _ (by decide +kernel) (by decide +kernel), p, dx, l, ns, i, _, rfl, hp, hS, hi, fun H1 h1 b1 f1 => ?_⟩
  refine ⟨_, rfl, p, C, dx, _, _, rfl, h1, T.cl, T.nS, rd_spot _ _, ?_⟩
  refine ⟨_, rfl, _, rfl, _, _, rfl, rfl, _, rfl, p, C, dx, _, rfl, h1, T.cl, T.nS, rd_len _ _, ?_⟩
  rw [rd_put]
  have hS1 : SqL K H1 l (ns.map V.int) := b1.seq hp hS
  have hS2 : SqL K (upd H1 p (.ins C dx (rdF l (((i + 1 : Nat) : Int) + (n : Int))))) l (ns.map V.int) := But.upd.seq h1 hS1
  refine ⟨_, rfl, p, C, dx, _, _, rfl, upd_same, T.cl, T.nC, rd_calls _ _, _, rfl, _, rfl, _, rfl, p, C, dx, _, _, rfl, upd_same, T.cl, T.nS, rd_spot _ _, _, rfl, l, _, rfl, hS2, fun q hq => ?_⟩
  have hqp : q ≠ p := fun e => by rw [e, upd_same] at hq; cases hq
  have hq0 : H q = none := by
    rw [upd_ne hqp] at hq
    cases e : H q with
    | none => rfl
    | some o => rw [b1 _ _ e hqp] at hq; cases hq
  refine k q _ ?_ ((b1.trans But.upd).same (same_new hq _)) hq0 ?_
  · rw [upd_ne (Ne.symm hqp), upd_same, show ((i + 1 : Nat) : Int) + (n : Int) = ((i + 1 + n : Nat) : Int) by omega]
  · rw [upd_same]
    unfold cutV
    rw [show ((i + 1 : Nat) : Int) + (n : Int) = ((i + 1 + n : Nat) : Int) by omega, HT.sIx_nat, HT.sIx_nat, List.length_map, Nat.min_eq_left hn, Nat.min_eq_left (show i + 1 ≤ ns.length by omega), ← List.map_drop, ← List.map_take, show i + 1 + n - (i + 1) = n by omega]
end
end PB

set_option Elab.async false
set_option linter.all false
set_option maxRecDepth 100000
set_option maxHeartbeats 4000000
namespace PB
open PySem PySem.Spec PyProof.Rows L2
open BM (Line Small B)
open Loft (firstBad BELOW)
abbrev sFnr : Stmt := top 25
abbrev sFnb : Stmt := top 26
abbrev sVer : Stmt := top 27
/-- a whole number that the module's top has named -/
def Glo (mg : Str → Option Value) (x : Str) (z : Int) : Prop := ∃ t, mg x = some (.int z t)
section
variable {X : Cx}
theorem pe_glo {mg' : Str → Option Value} {x : Str} {z : Int} {pos : Pos} (h : Glo mg' x z) (hm : X.mg = mg' := by rfl) (hg : Gl X x := by rfl) (hd : (x == ("__debug__" : Str)) = false := by decide) : PE X (.Name x pos) (tC (.int z)) := by
  obtain ⟨t, e⟩ := h
  exact pe_glob hg (by rw [hm]; exact e) ⟨t, rfl⟩ hd
end
def ofBad : Option Nat → V
  | none => .non
  | some k => .int k
def prevOf (ns : List Int) : Nat → Int
  | 0 => BELOW
  | i + 1 => ns.getD i 0
def spFnr (K : PySem.W.Frag) : Sp := fun vs H Q _ => ∃ (a : Addr) (ns : List Int) (f : Bool) (least : Int), vs = [.ref a, .int least] ∧ SqL K H a (ns.map V.int) ∧ ((f = true ∧ least = 0) ∨ (f = false ∧ least = -1048575)) ∧
  ∀ H', Same H H' → Q (ofBad (firstBad f (some BELOW) ns 0)) H'
def spFnb (K : PySem.W.Frag) : Sp := fun vs H Q _ => ∃ (a : Addr) (ns : List Int), vs = [.ref a] ∧ SqL K H a (ns.map V.int) ∧ ∀ H', Same H H' → Q (ofBad (firstBad true none ns 0)) H'
theorem map_get {ns : List Int} {i : Nat} {v : V} (h : (ns.map V.int)[i]? = some v) : ∃ z, ns[i]? = some z ∧ v = .int z ∧ i < ns.length ∧ ns.drop i = z :: ns.drop (i + 1) ∧ ns.getD i 0 = z := by
  rw [List.getElem?_map] at h
  cases e : ns[i]? with
  | none => rw [e] at h; cases h
  | some z =>
    rw [e] at h
    have hi : i < ns.length := (List.getElem?_eq_some_iff.mp e).1
    have ez : ns[i] = z := (List.getElem?_eq_some_iff.mp e).2
    exact ⟨z, rfl, (Option.some.inj h).symm, hi, by rw [← ez]; exact List.drop_eq_getElem_cons hi, by rw [← ez]; simp [List.getD, hi]⟩
section
variable {P : Program} {w : World} {K : PySem.W.Frag} {mg : Str → Option Value} {base : Heap}
theorem scFnr : FnScope ["numbers", "least", "i", "number"] ["numbers", "least"] (defScope sFnr) := ⟨rfl, rfl, rfl, by decide +kernel, rfl, by decide +kernel, by decide +kernel⟩
theorem ok_fnr {f : Addr} {fd : FuncData} (F : Fun K "first_not_rising" "first_not_rising" sFnr f fd) (me : mg "enumerate" = none) (gL : Glo mg "LARGEST" 1048575) : FnOk P w K mg base CX0 1 f fd ["numbers", "least"] (spFnr K) := by
  refine F.ok scFnr (fun vs H Q E h => ?_) (fun cdv A outer s H vs Q E hr h => ?_)
  · obtain ⟨a, ns, f, l, rfl, _⟩ := h; rfl
  obtain ⟨a, ns, f0, least, rfl, hS, hf, q⟩ := h
  refine ⟨_, pss_cons (ps_for PassesOwn.never rfl (pi_enum rfl me (pa_cons (pv 0) pa_nil)) (pg_tup rfl (pgs_cons (pg_name (i := 2) scFnr.nd rfl (Or.inl rfl)) (pgs_cons (pg_name (i := 3) scFnr.nd rfl (Or.inl rfl)) pgs_nil)))
      (pss_cons (ps_if (pw_or (pt_cmpR op_lt (pv 3) (pv 1) (nomark _)) (pw_or1 (pt_cmpR op_gt (pv 3) (pe_glo gL) (nomark _)))).pt (pss_one (ps_ret (pv 2))) pss_nil)
      (pss_one (ps_if (pw_and (pt_cmpR op_gt (pv 2) pe_int (nomark _)) (pw_and1 (pt_cmpR op_le (pv 3) (pe_ix ix_list (pv 0) (pe_op op_sub (pv 2) pe_int) (fun _ _ => rfl)) (nomark _)))).pt (pss_one (ps_ret (pv 2))) pss_nil))))
    (pss_one (ps_ret pe_non)), ?_⟩
  refine ⟨_, rfl, a, _, rfl, hS, for_enum (xs := ns.map V.int) (fun i σ H' => Same H H' ∧ (∃ v2 v3 : Option V, σ = [some (.ref a), some (.int least), v2, v3]) ∧ firstBad f0 (some BELOW) ns 0 = firstBad f0 (some (prevOf ns i)) (ns.drop i) i)
    ⟨Same.refl H, ⟨none, none, rfl⟩, rfl⟩ (fun i σ H' _ ⟨s, _⟩ => s.seq hS) ?_ ?_⟩
  · rintro i x σ H' T hx ⟨s1, ⟨v2, v3, rfl⟩, e⟩ hT
    obtain ⟨z, hz, rfl, hi, hd, hg⟩ := map_get hx
    have s2 : Same H (upd H' T (.tup [.int (i : Nat), .int z])) := s1.trans (same_new hT _)
    rw [hd, BM.firstBad_cons] at e
    refine ⟨T, _, rfl, seqT, rfl, _, _, rfl, _, _, rfl, rfl, ?_⟩
    have yes : BM.bad f0 (some (prevOf ns i)) z → Q (.int (i : Nat)) (upd H' T (.tup [.int (i : Nat), .int z])) := fun hb => by
      rw [if_pos hb] at e
      have := q _ s2
      rw [e] at this
      exact this
    have nx : ¬ BM.bad f0 (some (prevOf ns i)) z → firstBad f0 (some BELOW) ns 0 = firstBad f0 (some (prevOf ns (i + 1))) (ns.drop (i + 1)) (i + 1) := fun hb => by
      rw [e, if_neg hb]
      show firstBad f0 (some z) _ _ = firstBad f0 (some (ns.getD i 0)) _ _
      rw [hg]
    have bad1 : z < least ∨ 1048575 < z → BM.bad f0 (some (prevOf ns i)) z := fun h => by
      rcases hf with ⟨rfl, rfl⟩ | ⟨rfl, rfl⟩
      · rcases h with h | h
        · exact .inr (.inl ⟨rfl, h⟩)
        · exact .inl ((BM.measure_iff z).mpr (.inr h))
      · rcases h with h | h
        · exact .inl ((BM.measure_iff z).mpr (.inl h))
        · exact .inl ((BM.measure_iff z).mpr (.inr h))
    have bad2 : z ≤ prevOf ns i → BM.bad f0 (some (prevOf ns i)) z := fun h => .inr (.inr (by simpa using h))
    have good : ¬ (z < least ∨ 1048575 < z) → ¬ z ≤ prevOf ns i → ¬ BM.bad f0 (some (prevOf ns i)) z := fun h1 h2 hb => by
      rcases hb with hb | ⟨hb, hb'⟩ | hb
      · rw [BM.measure_iff] at hb
        rcases hf with ⟨rfl, rfl⟩ | ⟨rfl, rfl⟩ <;> omega
      · rcases hf with ⟨rfl, rfl⟩ | ⟨rfl, rfl⟩
        · omega
        · cases hb
      · exact h2 (by simpa using hb)
    refine ⟨_, rfl, _, rfl, _, _, rfl, rfl, _, rfl, ite2 (fun c => iteT ?_) (fun c => ?_)⟩
    · exact ⟨_, rfl, yes (bad1 (.inl (of_decide_eq_true c)))⟩
    have c' : ¬ z < least := of_decide_eq_false (Bool.eq_false_iff.mpr c)
    refine ⟨_, rfl, _, _, rfl, rfl, _, rfl, ite2 (fun d => ?_) (fun d => ?_)⟩
    · exact ⟨_, rfl, yes (bad1 (.inr (of_decide_eq_true d)))⟩
    have d' : ¬ 1048575 < z := of_decide_eq_false (Bool.eq_false_iff.mpr d)
    refine ⟨_, rfl, _, _, rfl, rfl, _, rfl, ite2 (fun g => ?_) (fun g => ?_)⟩
    · have g' : (0 : Int) < i := of_decide_eq_true g
      obtain ⟨j, rfl⟩ : ∃ j, i = j + 1 := ⟨i - 1, by omega⟩
      refine ⟨_, rfl, _, rfl, _, rfl, _, _, rfl, rfl, a, _, _, _, rfl, rfl, s2.seq hS, at_of (j := j) (v := .int (ns.getD j 0)) (by omega) (by rw [List.getElem?_map, BM.getElem_getD (by omega)]; rfl), _, _, rfl, rfl, _, rfl, ite2 (fun k => ?_) (fun k => ?_)⟩
      · exact ⟨_, rfl, yes (bad2 (of_decide_eq_true k))⟩
      · have k' : ¬ z ≤ ns.getD j 0 := of_decide_eq_false (Bool.eq_false_iff.mpr k)
        exact ⟨s2, ⟨_, _, rfl⟩, nx (good (by omega) k')⟩
    · have g' : ¬ (0 : Int) < i := of_decide_eq_false (Bool.eq_false_iff.mpr g)
      have i0 : i = 0 := by omega
      subst i0
      refine iteF ⟨s2, ⟨_, _, rfl⟩, nx (good (by omega) ?_)⟩
      show ¬ z ≤ -1048576
      rcases hf with ⟨rfl, rfl⟩ | ⟨rfl, rfl⟩ <;> omega
  · rintro σ H' ⟨s1, _, e⟩
    rw [List.length_map, List.drop_length] at e
    have := q H' s1
    rw [e] at this
    exact this
theorem scFnb : FnScope ["breadths", "i", "breadth"] ["breadths"] (defScope sFnb) := ⟨rfl, rfl, rfl, by decide +kernel, rfl, by decide +kernel, by decide +kernel⟩
theorem ok_fnb {f : Addr} {fd : FuncData} (F : Fun K "first_no_breadth" "first_no_breadth" sFnb f fd) (me : mg "enumerate" = none) (gL : Glo mg "LARGEST" 1048575) : FnOk P w K mg base CX0 1 f fd ["breadths"] (spFnb K) := by
  refine F.ok scFnb (fun vs H Q E h => ?_) (fun cdv A outer s H vs Q E hr h => ?_)
  · obtain ⟨a, ns, rfl, _⟩ := h; rfl
  obtain ⟨a, ns, rfl, hS, q⟩ := h
  refine ⟨_, pss_cons (ps_for PassesOwn.never rfl (pi_enum rfl me (pa_cons (pv 0) pa_nil)) (pg_tup rfl (pgs_cons (pg_name (i := 1) scFnb.nd rfl (Or.inl rfl)) (pgs_cons (pg_name (i := 2) scFnb.nd rfl (Or.inl rfl)) pgs_nil)))
      (pss_one (ps_if (pw_or (pt_cmpR op_lt (pv 2) pe_int (nomark _)) (pw_or1 (pt_cmpR op_gt (pv 2) (pe_glo gL) (nomark _)))).pt (pss_one (ps_ret (pv 1))) pss_nil)))
    (pss_one (ps_ret pe_non)), ?_⟩
  refine ⟨_, rfl, a, _, rfl, hS, for_enum (xs := ns.map V.int) (fun i σ H' => Same H H' ∧ (∃ v2 v3 : Option V, σ = [some (.ref a), v2, v3]) ∧ firstBad true none ns 0 = firstBad true none (ns.drop i) i)
    ⟨Same.refl H, ⟨none, none, rfl⟩, rfl⟩ (fun i σ H' _ ⟨s, _⟩ => s.seq hS) ?_ ?_⟩
  · rintro i x σ H' T hx ⟨s1, ⟨v2, v3, rfl⟩, e⟩ hT
    obtain ⟨z, hz, rfl, hi, hd, hg⟩ := map_get hx
    have s2 : Same H (upd H' T (.tup [.int (i : Nat), .int z])) := s1.trans (same_new hT _)
    rw [hd, BM.firstBad_cons] at e
    refine ⟨T, _, rfl, seqT, rfl, _, _, rfl, _, _, rfl, rfl, ?_⟩
    have yes : z < 0 ∨ 1048575 < z → Q (.int (i : Nat)) (upd H' T (.tup [.int (i : Nat), .int z])) := fun hb => by
      rw [if_pos (by rcases hb with h | h; exact .inr (.inl ⟨rfl, h⟩); exact .inl ((BM.measure_iff z).mpr (.inr h)))] at e
      have := q _ s2
      rw [e] at this
      exact this
    refine ⟨_, rfl, _, _, rfl, rfl, _, rfl, ite2 (fun c => iteT ?_) (fun c => ?_)⟩
    · exact ⟨_, rfl, yes (.inl (of_decide_eq_true c))⟩
    have c' : ¬ z < 0 := of_decide_eq_false (Bool.eq_false_iff.mpr c)
    refine ⟨_, rfl, _, _, rfl, rfl, _, rfl, ite2 (fun d => ?_) (fun d => ?_)⟩
    · exact ⟨_, rfl, yes (.inr (of_decide_eq_true d))⟩
    have d' : ¬ 1048575 < z := of_decide_eq_false (Bool.eq_false_iff.mpr d)
    refine ⟨s2, ⟨_, _, rfl⟩, ?_⟩
    rw [e, if_neg]
    · rfl
    · rintro (h | ⟨_, h⟩ | h)
      · rw [BM.measure_iff] at h; omega
      · omega
      · cases h
  · rintro σ H' ⟨s1, _, e⟩
    rw [List.length_map, List.drop_length] at e
    have := q H' s1
    rw [e] at this
    exact this
/-! ### verdict -/
def spVer (K : PySem.W.Frag) : Sp := fun vs H Q _ => ∃ (a b c : Addr) (xs zs ys : List Int), vs = [.ref a, .ref b, .ref c] ∧ SqL K H a (xs.map V.int) ∧ SqL K H b (zs.map V.int) ∧ SqL K H c (ys.map V.int) ∧ xs.length ≤ 1048576 ∧ zs.length ≤ 1048576 ∧
  ∀ p H', Same H H' → H' p = some (.lst ((BM.verdictI xs zs ys).map V.int)) → Q (.ref p) H'
theorem scVer : FnScope ["places", "heights", "breadths", "fault"] ["places", "heights", "breadths"] (defScope sVer) := ⟨rfl, rfl, rfl, by decide +kernel, rfl, by decide +kernel, by decide +kernel⟩
theorem same_list {H H' : Hp} {p : Addr} {xs : List V} {q : Addr → Hp → Prop} (k : ∀ p H', Same H H' → H' p = some (.lst xs) → q p H') (s : Same H H') {ys : List V} (e : ys = xs) : ∀ p, H' p = none → q p (upd H' p (.lst ys)) := fun p hp => k p _ (s.trans (same_new hp _)) (by rw [upd_same, e])
theorem ok_ver {f g h : Addr} {fd gd hd : FuncData} (F : Fun K "verdict" "verdict" sVer f fd) (G : Fun K "first_not_rising" "first_not_rising" sFnr g gd) (bG : Binds K gd ["numbers", "least"] []) (mG : mg "first_not_rising" = some (.ref g))
    (I : Fun K "first_no_breadth" "first_no_breadth" sFnb h hd) (bI : Binds K hd ["breadths"] []) (mI : mg "first_no_breadth" = some (.ref h)) (me : mg "enumerate" = none) (ml : mg "len" = none)
    (gL : Glo mg "LARGEST" 1048575) (gF : Glo mg "FEWEST" 2) (gS : Glo mg "MOST_STATIONS" 24) (gV : Glo mg "MOST_LEVELS" 16) : FnOk P w K mg base CX0 2 f fd ["places", "heights", "breadths"] (spVer K) := by
  have GG : FnOk P w K mg base CX0 1 g gd ["numbers", "least"] (spFnr K) := ok_fnr G me gL
  have GI : FnOk P w K mg base CX0 1 h hd ["breadths"] (spFnb K) := ok_fnb I me gL
  refine F.ok scVer (fun vs H Q E h => ?_) (fun cdv A outer s H vs Q E hr h => ?_)
  · obtain ⟨a, b, c, xs, zs, ys, rfl, _⟩ := h; rfl
  obtain ⟨a, b, c, xs, zs, ys, rfl, hX, hZ, hY, lx, lz, q⟩ := h
  refine ⟨_, pss_cons (ps_if (PW.pt (pw_or (pt_cmpR op_lt (pe_callB call_len_seq rfl ml PySem.boot_len (pa_cons (pv 0) pa_nil)) (pe_glo gF) (nomark _)) (pw_or1 (pt_cmpR op_gt (pe_callB call_len_seq rfl ml PySem.boot_len (pa_cons (pv 0) pa_nil)) (pe_glo gS) (nomark _))))) (pss_one (ps_ret (pe_lst (pa_cons pe_int (pa_cons pe_int pa_nil))))) pss_nil)
    (pss_cons (ps_if (PW.pt (pw_or (pt_cmpR op_lt (pe_callB call_len_seq rfl ml PySem.boot_len (pa_cons (pv 1) pa_nil)) (pe_glo gF) (nomark _)) (pw_or1 (pt_cmpR op_gt (pe_callB call_len_seq rfl ml PySem.boot_len (pa_cons (pv 1) pa_nil)) (pe_glo gV) (nomark _))))) (pss_one (ps_ret (pe_lst (pa_cons pe_int (pa_cons pe_int pa_nil))))) pss_nil)
    (pss_cons (ps_if (pt_cmpR op_ne (pe_callB call_len_seq rfl ml PySem.boot_len (pa_cons (pv 2) pa_nil)) (pe_op op_mul (pe_callB call_len_seq rfl ml PySem.boot_len (pa_cons (pv 0) pa_nil)) (pe_callB call_len_seq rfl ml PySem.boot_len (pa_cons (pv 1) pa_nil))) (nomark _)) (pss_one (ps_ret (pe_lst (pa_cons pe_int (pa_cons (pe_callB call_len_seq rfl ml PySem.boot_len (pa_cons (pv 2) pa_nil)) pa_nil))))) pss_nil)
    (pss_cons (ps_set (i := 3) scVer.nd rfl (Or.inl rfl) (pe_call GG hr rfl mG G.kp bG .nil pass0 (pa_cons (pv 0) (pa_cons pe_int pa_nil))))
    (pss_cons (ps_if (pt_cmpR op_notN (pv 3) pe_non (nomark _)) (pss_one (ps_ret (pe_lst (pa_cons pe_int (pa_cons (pv 3) pa_nil))))) pss_nil)
    (pss_cons (ps_set (i := 3) scVer.nd rfl (Or.inl rfl) (pe_call GG hr rfl mG G.kp bG .nil pass0 (pa_cons (pv 1) (pa_cons (pe_un un_neg (pe_glo gL)) pa_nil))))
    (pss_cons (ps_if (pt_cmpR op_notN (pv 3) pe_non (nomark _)) (pss_one (ps_ret (pe_lst (pa_cons pe_int (pa_cons (pv 3) pa_nil))))) pss_nil)
    (pss_cons (ps_set (i := 3) scVer.nd rfl (Or.inl rfl) (pe_call GI hr rfl mI I.kp bI .nil pass0 (pa_cons (pv 2) pa_nil)))
    (pss_cons (ps_if (pt_cmpR op_notN (pv 3) pe_non (nomark _)) (pss_one (ps_ret (pe_lst (pa_cons pe_int (pa_cons (pv 3) pa_nil))))) pss_nil)
    (pss_one (ps_ret (pe_lst (pa_cons pe_int (pa_cons pe_int pa_nil))))))))))))), ?_⟩
  have two : ∀ {H' : Hp} {u v : Int}, Same H H' → BM.verdictI xs zs ys = [u, v] → (2 ≤ sizeLine ∧ ∀ p, H' p = none → Q (.ref p) (upd H' p (.lst [.int u, .int v]))) := fun s e => ⟨by decide, fun p hp => q p _ (s.trans (same_new hp _)) (by rw [upd_same, e]; rfl)⟩
  have ex : ((xs.map V.int).length : Int) = xs.length := by rw [List.length_map]
  have ez : ((zs.map V.int).length : Int) = zs.length := by rw [List.length_map]
  have ey : ((ys.map V.int).length : Int) = ys.length := by rw [List.length_map]
  have r0 := Same.refl H
  unfold BM.verdictI at two
  -- stations
  refine ⟨_, rfl, a, _, rfl, .inl hX, _, _, rfl, rfl, _, rfl, ite2 (fun z => iteT ?_) (fun z => ?_)⟩
  · have z' : ((xs.map V.int).length : Int) < 2 := of_decide_eq_true z
    exact two r0 (by rw [if_pos (by omega)])
  have z1 : ¬ ((xs.map V.int).length : Int) < 2 := of_decide_eq_false (Bool.eq_false_iff.mpr z)
  refine ⟨_, rfl, a, _, rfl, .inl hX, _, _, rfl, rfl, _, rfl, ite2 (fun z => ?_) (fun z => ?_)⟩
  · have z' : (24 : Int) < ((xs.map V.int).length : Int) := of_decide_eq_true z
    exact two r0 (by rw [if_pos (by omega)])
  have z2 : ¬ (24 : Int) < ((xs.map V.int).length : Int) := of_decide_eq_false (Bool.eq_false_iff.mpr z)
  rw [if_neg (by omega)] at two
  -- levels
  refine ⟨_, rfl, b, _, rfl, .inl hZ, _, _, rfl, rfl, _, rfl, ite2 (fun z => iteT ?_) (fun z => ?_)⟩
  · have z' : ((zs.map V.int).length : Int) < 2 := of_decide_eq_true z
    exact two r0 (by rw [if_pos (by omega)])
  have z3 : ¬ ((zs.map V.int).length : Int) < 2 := of_decide_eq_false (Bool.eq_false_iff.mpr z)
  refine ⟨_, rfl, b, _, rfl, .inl hZ, _, _, rfl, rfl, _, rfl, ite2 (fun z => ?_) (fun z => ?_)⟩
  · have z' : (16 : Int) < ((zs.map V.int).length : Int) := of_decide_eq_true z
    exact two r0 (by rw [if_pos (by omega)])
  have z4 : ¬ (16 : Int) < ((zs.map V.int).length : Int) := of_decide_eq_false (Bool.eq_false_iff.mpr z)
  rw [if_neg (by omega)] at two
  -- half-breadths
  have em : ((xs.map V.int).length : Int) * ((zs.map V.int).length : Int) = ((xs.length * zs.length : Nat) : Int) := by rw [ex, ez, Int.natCast_mul]
  refine ⟨_, rfl, c, _, rfl, .inl hY, _, rfl, a, _, rfl, .inl hX, _, rfl, b, _, rfl, .inl hZ, _, _, rfl, rfl, .inl ⟨by omega, by omega⟩, rfl, _, rfl, ite2 (fun z => ?_) (fun z => ?_)⟩
  · have z' : ¬ V.int ((ys.map V.int).length : Int) = V.int (((xs.map V.int).length : Int) * ((zs.map V.int).length : Int)) := by
      intro e; rw [decide_eq_true e] at z; cases z
    have z'' : ys.length ≠ xs.length * zs.length := fun e => z' (by rw [em, ey, e])
    refine ⟨_, rfl, c, _, rfl, .inl hY, ?_⟩
    rw [ey]
    exact two r0 (by rw [if_pos z''])
  have z5 : ys.length = xs.length * zs.length := by
    have e : V.int ((ys.map V.int).length : Int) = V.int (((xs.map V.int).length : Int) * ((zs.map V.int).length : Int)) := by
      refine Classical.byContradiction fun e => z ?_
      rw [decide_eq_false e]; rfl
    injection e with e
    rw [em, ey] at e
    exact Int.ofNat_inj.mp e
  rw [if_neg (fun e => e z5)] at two
  -- places
  refine ⟨_, rfl, a, xs, true, 0, rfl, hX, .inl ⟨rfl, rfl⟩, fun H1 s1 => ?_⟩
  cases e1 : firstBad true (some BELOW) xs 0 with
  | some k =>
    refine ⟨_, rfl, rfl, _, rfl, iteT ⟨_, rfl, ?_⟩⟩
    exact two s1 (by rw [e1])
  | none =>
  refine ⟨_, rfl, rfl, _, rfl, iteF ?_⟩
  rw [e1] at two
  -- heights
  refine ⟨_, rfl, _, rfl, b, zs, false, -1048575, rfl, s1.seq hZ, .inr ⟨rfl, rfl⟩, fun H2 s2 => ?_⟩
  have s12 := s1.trans s2
  cases e2 : firstBad false (some BELOW) zs 0 with
  | some k =>
    refine ⟨_, rfl, rfl, _, rfl, iteT ⟨_, rfl, ?_⟩⟩
    exact two s12 (by rw [e2])
  | none =>
  refine ⟨_, rfl, rfl, _, rfl, iteF ?_⟩
  rw [e2] at two
  refine ⟨_, rfl, c, ys, rfl, s12.seq hY, fun H3 s3 => ?_⟩
  have s13 := s12.trans s3
  cases e3 : firstBad true none ys 0 with
  | some k =>
    refine ⟨_, rfl, rfl, _, rfl, iteT ⟨_, rfl, ?_⟩⟩
    exact two s13 (by rw [e3])
  | none =>
  refine ⟨_, rfl, rfl, _, rfl, iteF ?_⟩
  exact two s13 (by rw [e3])
end
end PB

set_option Elab.async false
set_option linter.all false
set_option maxRecDepth 100000
set_option maxHeartbeats 4000000
namespace PB
open PySem PySem.Spec PyProof.Rows L2
open BM (Line Small B Good linesI lineX lineY lineN lineOf seg)
/-! ### xs[k::c] -/
def pick3 (xs : List V) (l u c : Option Int) : List V := (sliceRange (sliceBounds l u c xs.length).1 (sliceBounds l u c xs.length).2.1 (sliceBounds l u c xs.length).2.2).filterMap (xs[·]?)
theorem vals_pick {xs : List V} {its : List Value} (r : Vals xs its) : ∀ js : List Nat, Vals (js.filterMap (xs[·]?)) (js.filterMap (its[·]?))
  | [] => .nil
  | j :: js => by
    have ih := vals_pick r js
    cases e : xs[j]? with
    | none =>
      rw [List.filterMap_cons_none (by exact e), List.filterMap_cons_none (by exact r.none_of e)]
      exact ih
    | some v =>
      obtain ⟨u, hu, ru⟩ := r.get e
      rw [List.filterMap_cons_some (by exact e), List.filterMap_cons_some (by exact hu)]
      exact .cons ru ih
section
variable {X : Cx} {e a st : Expr} {te tk ts : TE} {pos p2 : Pos}
def tStep (K : PySem.W.Frag) (te tk ts : TE) : TE := fun σ H Q => te σ H fun x H1 => tPart tk σ H1 fun l H2 => tNoPart σ H2 fun u H3 => tPart ts σ H3 fun c H4 =>
  ∃ b xs, x = .ref b ∧ SqL K H4 b xs ∧ c ≠ some 0 ∧ ∀ p, H4 p = none → Q (.ref p) (upd H4 p (.lst (pick3 xs l u c)))
theorem pe_step (he : PE X e te) (hk : PE X a tk) (hs : PE X st ts) : PE X (.Subscript e (.Slice (some a) none (some st) p2) pos) (tStep X.K te tk ts) := by
  intro pins s σ H Q I h
  refine Subscript_ (thn (he pins s σ H _ I h) fun v s1 ⟨x, H1, I1, r1, q1⟩ => ?_)
  refine wpAny_Slice (thn (po_some hk pins s1 σ H1 _ I1 q1) fun vl s2 ⟨l, H2, I2, pl, q2⟩ => thn (po_none pins s2 σ H2 _ I2 q2) fun vu s3 ⟨u, H3, I3, pu, q3⟩ => ?_)
  refine thn (po_some hs pins s3 σ H3 _ I3 q3) fun vk s4 ⟨c, H4, I4, pk, q4⟩ => ?_
  have I5 : Inv X pins σ H4 { s4 with heap := s4.heap.push { cls := .type "slice", data := .fields #[vl, vu, vk] } } := I4.kept (t' := s4.toks) fun b ob q => Heap.get?_push_of_some _ q
  obtain ⟨b, xs, ex, hx, h0, q5⟩ := q4
  subst ex
  cases r1
  obtain ⟨its, r, ht, hz⟩ := I5.list hx
  have hlen := r.length
  show wpAny (model X.prog X.w) X.A (subscriptTail e (.Slice (some a) none (some st) p2) (.ref b) (.ref s4.heap.objs.size)) (EP X pins σ Q) X.xe { s4 with heap := s4.heap.push { cls := .type "slice", data := .fields #[vl, vu, vk] } }
  refine tail_any (ops := [.ref b, .ref s4.heap.objs.size]) ht.isList.typeIs slot_list_getitem.lookup (wpAny_getItem_list_slice ht.isList (Heap.IsSliceOf.new ..) pl pu pk h0 ?_ (by rw [List.size_toArray]; omega)) (by with_unfolding_all rfl)
  have ep : slicePick its.toArray l u c = ((sliceRange (sliceBounds l u c xs.length).1 (sliceBounds l u c xs.length).2.1 (sliceBounds l u c xs.length).2.2).filterMap (its[·]?)).toArray := by
    unfold slicePick
    rw [List.size_toArray, ← hlen]
    simp
  rw [ep]
  have rv := vals_pick r (sliceRange (sliceBounds l u c xs.length).1 (sliceBounds l u c xs.length).2.1 (sliceBounds l u c xs.length).2.2)
  have hl2 : (pick3 xs l u c).length ≤ sizeLine := by
    have h1 := slicePick_size_le its.toArray l u c
    rw [ep] at h1
    simp only [List.size_toArray] at h1
    have h2 := rv.length
    unfold pick3
    omega
  refine ⟨.ref _, _, I5.laid (t' := s4.toks) (o := .lst (pick3 xs l u c)) (fun b ob q => Heap.get?_push_of_some _ q) (Nat.le_refl _) ?_, rfl, q5 _ (I5.hok.fresh (Nat.le_refl _))⟩
  exact ⟨hl2, _, 0, rv, Heap.get?_push_size _ rfl⟩
end
theorem pick_col {xs : List V} {k c n : Nat} (hc : k < c) (hl : xs.length = c * n) : pick3 xs (some (k : Int)) none (some (c : Int)) = (List.range n).filterMap (fun j => xs[j * c + k]?) := by
  unfold pick3
  have b1 : (sliceBounds (some (k : Int)) none (some (c : Int)) xs.length).1 = ((min k xs.length : Nat) : Int) := by
    show (if (c : Int) > 0 then max 0 (min (if (k : Int) < 0 then (k : Int) + xs.length else (k : Int)) (xs.length : Int)) else _) = _
    rw [if_pos (by omega), if_neg (by omega)]; omega
  have b2 : (sliceBounds (some (k : Int)) none (some (c : Int)) xs.length).2.1 = (xs.length : Int) := by
    show (if (c : Int) > 0 then (xs.length : Int) else -1) = _
    rw [if_pos (by omega)]
  have b3 : (sliceBounds (some (k : Int)) none (some (c : Int)) xs.length).2.2 = (c : Int) := rfl
  rw [b1, b2, b3]
  by_cases n0 : n = 0
  · subst n0
    rw [hl, Nat.mul_zero]
    unfold sliceRange
    simp
  have kl : k < xs.length := by
    rw [hl]
    have : c * 1 ≤ c * n := Nat.mul_le_mul_left c (by omega)
    omega
  rw [Nat.min_eq_left (Nat.le_of_lt kl)]
  unfold sliceRange
  have cnt : ((if (c : Int) > 0 then (if (k : Int) < (xs.length : Int) then ((xs.length : Int) - k + c - 1) / c else 0) else (if (k : Int) > (xs.length : Int) then ((k : Int) - xs.length - c - 1) / (-(c : Int)) else 0)) : Int).toNat = n := by
    rw [if_pos (by omega), if_pos (by omega), hl]
    have e : ((c * n : Nat) : Int) - k + c - 1 = (c - 1 - k : Int) + c * (n : Int) := by rw [Int.natCast_mul]; omega
    rw [e, Int.add_mul_ediv_left _ _ (by omega), Int.ediv_eq_zero_of_lt (by omega) (by omega)]
    omega
  dsimp only
  rw [cnt, List.filterMap_map]
  congr 1
  funext j
  show xs[((k : Int) + (c : Int) * (j : Int)).toNat]? = _
  have : ((k : Int) + (c : Int) * (j : Int)).toNat = j * c + k := by
    rw [Nat.mul_comm]
    have : (c : Int) * (j : Int) = ((c * j : Nat) : Int) := by rw [Int.natCast_mul]
    omega
  rw [this]
/-! ### Table -/
abbrev sTbInit : Stmt := inClass (top 28) 0
abbrev sTbHas : Stmt := inClass (top 28) 1
abbrev sTbPl : Stmt := inClass (top 28) 2
abbrev sTbBr : Stmt := inClass (top 28) 3
def tbF (a b c : Addr) : List (Str × V) := putF "breadths" (.ref c) (putF "heights" (.ref b) (putF "places" (.ref a) []))
theorem tb_p (a b c : Addr) : (tbF a b c).lookup ("places" : Str) = some (.ref a) := by
  unfold tbF; rw [lookup_putF, if_neg (by decide +kernel), lookup_putF, if_neg (by decide +kernel), lookup_putF, if_pos rfl]
theorem tb_h (a b c : Addr) : (tbF a b c).lookup ("heights" : Str) = some (.ref b) := by
  unfold tbF; rw [lookup_putF, if_neg (by decide +kernel), lookup_putF, if_pos rfl]
theorem tb_b (a b c : Addr) : (tbF a b c).lookup ("breadths" : Str) = some (.ref c) := by
  unfold tbF; rw [lookup_putF, if_pos rfl]
theorem tb_no (a b c : Addr) {m : Str} (h1 : ¬ m = "places") (h2 : ¬ m = "heights") (h3 : ¬ m = "breadths") : (tbF a b c).lookup m = none := by
  unfold tbF; rw [lookup_putF, if_neg h3, lookup_putF, if_neg h2, lookup_putF, if_neg h1]; rfl
structure TbC (K : PySem.W.Frag) (C : Addr) : Prop where
  cl : Cls K C
  nP : NoAttr K C "places"
  nH : NoAttr K C "heights"
  nB : NoAttr K C "breadths"
/-- a table stands at p -/
structure TbAt (K : PySem.W.Frag) (C : Addr) (H : Hp) (p : Addr) (xs zs ys : List Int) : Prop where
  at_ : ∃ dx a b c, H p = some (.ins C dx (tbF a b c)) ∧ SqL K H a (xs.map V.int) ∧ SqL K H b (zs.map V.int) ∧ SqL K H c (ys.map V.int)
theorem TbAt.same {K : PySem.W.Frag} {C : Addr} {H H' : Hp} {p : Addr} {xs zs ys : List Int} (t : TbAt K C H p xs zs ys) (s : Same H H') : TbAt K C H' p xs zs ys := by
  obtain ⟨dx, a, b, c, h, h1, h2, h3⟩ := t.at_
  exact ⟨⟨dx, a, b, c, s _ _ h, s.seq h1, s.seq h2, s.seq h3⟩⟩
def spTbInit (C : Addr) : Sp := fun vs H Q _ => ∃ p dx a b c, vs = [.ref p, .ref a, .ref b, .ref c] ∧ H p = some (.ins C dx []) ∧ ∀ H', H' p = some (.ins C dx (tbF a b c)) → But p H H' → Q .non H'
def spTbHas (K : PySem.W.Frag) (C : Addr) : Sp := fun vs H Q _ => ∃ (p : Addr) (xs zs ys : List Int) (way k : Int), vs = [.ref p, .int way, .int k] ∧ TbAt K C H p xs zs ys ∧ Q (.bl (decide (0 ≤ k) && decide (k < linesI xs zs way))) H
def spTbPl (K : PySem.W.Frag) (C : Addr) : Sp := fun vs H Q _ => ∃ (p : Addr) (xs zs ys : List Int) (way : Int), vs = [.ref p, .int way] ∧ TbAt K C H p xs zs ys ∧ (way = 0 ∨ way = 1) ∧ ∀ a, SqL K H a (vI (lineX xs zs way.toNat) (lineN xs zs way.toNat)) → Q (.ref a) H
def spTbBr (K : PySem.W.Frag) (C : Addr) : Sp := fun vs H Q _ => ∃ (p : Addr) (xs zs ys : List Int) (way k : Int), vs = [.ref p, .int way, .int k] ∧ TbAt K C H p xs zs ys ∧ Good xs zs ys ∧ (way = 0 ∨ way = 1) ∧ 0 ≤ k ∧ k < linesI xs zs way ∧
  ∀ a H', Same H H' → H' a = some (.lst (vI (lineY xs ys way.toNat k.toNat) (lineN xs zs way.toNat))) → Q (.ref a) H'
theorem map_vI (l : List Int) : l.map V.int = vI (fun i => l.getD i 0) l.length := by
  unfold vI
  refine BM.ext_seg (by simp) fun i hi => ?_
  rw [List.getElem?_map, BM.getElem_getD hi]; rfl
section
variable {P : Program} {w : World} {K : PySem.W.Frag} {mg : Str → Option Value} {base : Heap}
theorem scTbInit : FnScope ["self", "places", "heights", "breadths"] ["self", "places", "heights", "breadths"] (defScope sTbInit) := ⟨rfl, rfl, rfl, by decide +kernel, rfl, by decide +kernel, by decide +kernel⟩
theorem ok_tbInit {f C : Addr} {fd : FuncData} (F : Fun K "__init__" "Table.__init__" sTbInit f fd) (T : TbC K C) : FnOk P w K mg base CX0 1 f fd ["self", "places", "heights", "breadths"] (spTbInit C) := by
  refine F.ok scTbInit (fun vs H Q E h => ?_) (fun cdv A outer s H vs Q E hr h => ?_)
  · obtain ⟨p, dx, a, b, c, rfl, _⟩ := h; rfl
  obtain ⟨p, dx, a, b, c, rfl, hp, k⟩ := h
  refine ⟨_, pss_cons (ps_fld (pv 0) (pv 1) rfl) (pss_cons (ps_fld (pv 0) (pv 2) rfl) (pss_one (ps_fld (pv 0) (pv 3) rfl))), ?_⟩
  refine ⟨_, rfl, _, rfl, p, C, dx, _, rfl, hp, T.cl, T.nP, (by show 0 < 1000; decide), ?_⟩
  refine ⟨_, rfl, _, rfl, p, C, dx, _, rfl, upd_same, T.cl, T.nH, Nat.lt_of_le_of_lt (putF_len _ _ _) (by decide), ?_⟩
  refine ⟨_, rfl, _, rfl, p, C, dx, _, rfl, upd_same, T.cl, T.nB, Nat.lt_of_le_of_lt (putF_len _ _ _) (Nat.lt_of_le_of_lt (Nat.succ_le_succ (putF_len _ _ _)) (by decide)), ?_⟩
  exact k _ upd_same ((But.upd.trans But.upd).trans But.upd)
theorem scTbHas : FnScope ["self", "way", "k", "crossing"] ["self", "way", "k"] (defScope sTbHas) := ⟨rfl, rfl, rfl, by decide +kernel, rfl, by decide +kernel, by decide +kernel⟩
theorem ok_tbHas {f C : Addr} {fd : FuncData} (F : Fun K "has_line" "Table.has_line" sTbHas f fd) (T : TbC K C) (ml : mg "len" = none) (gB : Glo mg "BY_LEVEL" 0) : FnOk P w K mg base CX0 1 f fd ["self", "way", "k"] (spTbHas K C) := by
  refine F.ok scTbHas (fun vs H Q E h => ?_) (fun cdv A outer s H vs Q E hr h => ?_)
  · obtain ⟨p, xs, zs, ys, way, k, rfl, _⟩ := h; rfl
  obtain ⟨p, xs, zs, ys, way, k, rfl, ⟨dx, a, b, c, hp, h1, h2, h3⟩, q⟩ := h
  refine ⟨_, pss_cons (ps_set (i := 3) scTbHas.nd rfl (Or.inl rfl) (pe_ifExp (pt_cmpR op_eq (pv 1) (pe_glo gB) (nomark _)) (pe_fld (pv 0) rfl) (pe_fld (pv 0) rfl)))
    (pss_one (ps_ret (pe_chain op_le op_lt pe_int (pv 2) (pe_callB call_len_seq rfl ml PySem.boot_len (pa_cons (pv 3) pa_nil))))), ?_⟩
  refine ⟨_, rfl, rfl, _, rfl, ite2 (fun z => ?_) (fun z => ?_)⟩
  · have z' : V.int way = V.int 0 := of_decide_eq_true z
    injection z' with z'
    refine ⟨_, rfl, p, C, dx, _, _, rfl, hp, T.cl, T.nH, tb_h _ _ _, ?_⟩
    refine ⟨_, rfl, _, _, rfl, rfl, _, rfl, ite2 (fun y => ?_) (fun y => ?_)⟩
    · refine ⟨_, rfl, b, _, rfl, .inl h2, _, _, rfl, rfl, ?_⟩
      rw [y, Bool.true_and] at q
      rw [List.length_map]
      unfold linesI at q
      rw [if_pos z'] at q
      exact q
    · rw [Bool.eq_false_iff.mpr y, Bool.false_and] at q
      exact q
  · have z' : ¬ way = 0 := fun e => of_decide_eq_false (Bool.eq_false_iff.mpr z) (congrArg V.int e)
    refine ⟨_, rfl, p, C, dx, _, _, rfl, hp, T.cl, T.nP, tb_p _ _ _, ?_⟩
    refine ⟨_, rfl, _, _, rfl, rfl, _, rfl, ite2 (fun y => ?_) (fun y => ?_)⟩
    · refine ⟨_, rfl, a, _, rfl, .inl h1, _, _, rfl, rfl, ?_⟩
      rw [y, Bool.true_and] at q
      rw [List.length_map]
      unfold linesI at q
      rw [if_neg z'] at q
      exact q
    · rw [Bool.eq_false_iff.mpr y, Bool.false_and] at q
      exact q
theorem scTbPl : FnScope ["self", "way"] ["self", "way"] (defScope sTbPl) := ⟨rfl, rfl, rfl, by decide +kernel, rfl, by decide +kernel, by decide +kernel⟩
theorem ok_tbPl {f C : Addr} {fd : FuncData} (F : Fun K "nail_places" "Table.nail_places" sTbPl f fd) (T : TbC K C) (gB : Glo mg "BY_LEVEL" 0) : FnOk P w K mg base CX0 1 f fd ["self", "way"] (spTbPl K C) := by
  refine F.ok scTbPl (fun vs H Q E h => ?_) (fun cdv A outer s H vs Q E hr h => ?_)
  · obtain ⟨p, xs, zs, ys, way, rfl, _⟩ := h; rfl
  obtain ⟨p, xs, zs, ys, way, rfl, ⟨dx, a, b, c, hp, h1, h2, h3⟩, hw, q⟩ := h
  refine ⟨_, pss_one (ps_ret (pe_ifExp (pt_cmpR op_eq (pv 1) (pe_glo gB) (nomark _)) (pe_fld (pv 0) rfl) (pe_fld (pv 0) rfl))), ?_⟩
  refine ⟨_, rfl, rfl, _, rfl, ite2 (fun z => ?_) (fun z => ?_)⟩
  · have z' : V.int way = V.int 0 := of_decide_eq_true z
    injection z' with z'
    subst z'
    refine ⟨_, rfl, p, C, dx, _, _, rfl, hp, T.cl, T.nP, tb_p _ _ _, q a ?_⟩
    rw [map_vI] at h1
    exact h1
  · have z' : ¬ way = 0 := fun e => of_decide_eq_false (Bool.eq_false_iff.mpr z) (congrArg V.int e)
    obtain rfl : way = 1 := by omega
    refine ⟨_, rfl, p, C, dx, _, _, rfl, hp, T.cl, T.nH, tb_h _ _ _, q b ?_⟩
    rw [map_vI] at h2
    exact h2
theorem scTbBr : FnScope ["self", "way", "k", "stations"] ["self", "way", "k"] (defScope sTbBr) := ⟨rfl, rfl, rfl, by decide +kernel, rfl, by decide +kernel, by decide +kernel⟩
theorem ok_tbBr {f C : Addr} {fd : FuncData} (F : Fun K "nail_breadths" "Table.nail_breadths" sTbBr f fd) (T : TbC K C) (ml : mg "len" = none) (gB : Glo mg "BY_LEVEL" 0) : FnOk P w K mg base CX0 1 f fd ["self", "way", "k"] (spTbBr K C) := by
  refine F.ok scTbBr (fun vs H Q E h => ?_) (fun cdv A outer s H vs Q E hr h => ?_)
  · obtain ⟨p, xs, zs, ys, way, k, rfl, _⟩ := h; rfl
  obtain ⟨p, xs, zs, ys, way, k, rfl, ⟨dx, a, b, c, hp, h1, h2, h3⟩, G, hw, k0, k1, q⟩ := h
  refine ⟨_, pss_cons (ps_set (i := 3) scTbBr.nd rfl (Or.inl rfl) (pe_callB call_len_seq rfl ml PySem.boot_len (pa_cons (pe_fld (pv 0) rfl) pa_nil)))
    (pss_cons (ps_if (pt_cmpR op_eq (pv 1) (pe_glo gB) (nomark _)) (pss_one (ps_ret (pe_slice sl_list (pe_fld (pv 0) rfl) (po_some (pe_op op_mul (pv 2) (pv 3))) (po_some (pe_op op_mul (pe_op op_add (pv 2) pe_int) (pv 3)))))) pss_nil)
    (pss_one (ps_ret (pe_step (pe_fld (pv 0) rfl) (pv 2) (pv 3))))), ?_⟩
  have xl := G.xl
  have zl := G.zl
  have yl := G.yl
  refine ⟨_, rfl, p, C, dx, _, _, rfl, hp, T.cl, T.nP, tb_p _ _ _, a, _, rfl, .inl h1, ?_⟩
  rw [List.length_map]
  refine ⟨_, rfl, rfl, _, rfl, ite2 (fun z => ?_) (fun z => ?_)⟩
  · have z' : V.int way = V.int 0 := of_decide_eq_true z
    injection z' with z'
    subst z'
    have k1' : k < zs.length := k1
    obtain ⟨j, rfl⟩ : ∃ j : Nat, k = j := ⟨k.toNat, by omega⟩
    have hj : j < zs.length := by omega
    refine ⟨_, rfl, p, C, dx, _, _, rfl, hp, T.cl, T.nB, tb_b _ _ _, _, rfl, _, rfl, _, _, rfl, rfl, .inr ⟨by omega, by omega⟩, _, rfl, _, rfl, _, _, rfl, rfl, _, rfl, _, _, rfl, rfl, .inr ⟨by omega, by omega⟩, _, rfl, c, _, rfl, h3, fun r hr' => ?_⟩
    refine q r _ (same_new hr' _) ?_
    rw [upd_same]
    congr 2
    have b1 : j * xs.length + xs.length ≤ ys.length := by
      have := Nat.mul_le_mul_right xs.length hj
      rw [Nat.succ_mul, Nat.mul_comm zs.length] at this; omega
    have e1 : (j : Int) * (xs.length : Int) = ((j * xs.length : Nat) : Int) := by rw [Int.natCast_mul]
    have e2 : ((j : Int) + 1) * (xs.length : Int) = ((j * xs.length + xs.length : Nat) : Int) := by rw [Int.add_mul, Int.one_mul, e1]; omega
    unfold cutV
    rw [e1, e2, HT.sIx_nat, HT.sIx_nat, List.length_map, Nat.min_eq_left b1, Nat.min_eq_left (show j * xs.length ≤ ys.length by omega), Nat.add_sub_cancel_left]
    show _ = seg _ 0 xs.length
    refine BM.ext_seg (by rw [List.length_take, List.length_drop, List.length_map]; omega) fun i hi => ?_
    rw [List.getElem?_take, if_pos hi, List.getElem?_drop, List.getElem?_map, BM.getElem_getD (by omega)]
    rfl
  · have z' : ¬ way = 0 := fun e => of_decide_eq_false (Bool.eq_false_iff.mpr z) (congrArg V.int e)
    obtain rfl : way = 1 := by omega
    have k1' : k < xs.length := k1
    obtain ⟨j, rfl⟩ : ∃ j : Nat, k = j := ⟨k.toNat, by omega⟩
    have hj : j < xs.length := by omega
    refine ⟨_, rfl, p, C, dx, _, _, rfl, hp, T.cl, T.nB, tb_b _ _ _, _, rfl, _, rfl, _, rfl, _, rfl, c, _, rfl, h3, ?_, fun r hr' => ?_⟩
    · intro e; injection e with e; omega
    refine q r _ (same_new hr' _) ?_
    rw [upd_same, pick_col (n := zs.length) hj (by rw [List.length_map]; exact yl)]
    congr 2
    show _ = seg _ 0 zs.length
    have e : (fun i : Nat => (ys.map V.int)[i * xs.length + j]?) = fun i => (ys[i * xs.length + j]?).map V.int := by funext i; rw [List.getElem?_map]
    rw [e]
    have hb : ∀ i, i < zs.length → i * xs.length + j < ys.length := fun i hi => by
      have := BM.mul_bound hi hj
      rw [Nat.mul_comm zs.length] at this; omega
    have gen : ∀ n, n ≤ zs.length → (List.range n).filterMap (fun i => (ys[i * xs.length + j]?).map V.int) = seg (fun i => V.int (lineY xs ys 1 j i)) 0 n := by
      intro n
      induction n with
      | zero => intro _; rfl
      | succ n ih =>
        intro hn
        rw [List.range_succ, List.filterMap_append, ih (by omega), ← seg_snoc, Nat.zero_add]
        congr 1
        rw [List.filterMap_cons_some (b := V.int (lineY xs ys 1 j n))]
        · rfl
        · show (ys[n * xs.length + j]?).map V.int = _
          rw [BM.getElem_getD (hb n (by omega))]; rfl
    exact gen _ (Nat.le_refl _)
end
end PB

set_option Elab.async false
set_option linter.all false
set_option maxRecDepth 100000
set_option maxHeartbeats 4000000
namespace PB
open PySem PySem.Spec PyProof.Rows L2
open BM (Line Small B seg prodL)
/-! ### Batten -/
abbrev sBtInit : Stmt := inClass (top 15) 0
abbrev sBtCov : Stmt := inClass (top 15) 1
abbrev sBtHas : Stmt := inClass (top 15) 2
abbrev sBtCat : Stmt := inClass (top 15) 3
abbrev sBtCub : Stmt := inClass (top 15) 4
abbrev sBtDer : Stmt := inClass (top 15) 5
def bt0 (x : Addr) : List (Str × V) := putF "xs" (.ref x) []
def bt1 (x y : Addr) : List (Str × V) := putF "ys" (.ref y) (bt0 x)
def bt2 (x y g : Addr) : List (Str × V) := putF "gaps" (.ref g) (bt1 x y)
def bt3 (x y g s : Addr) : List (Str × V) := putF "sixths" (.ref s) (bt2 x y g)
def btF (x y g s : Addr) (u : Int) : List (Str × V) := putF "under" (.int u) (bt3 x y g s)
theorem bt2_g (x y g : Addr) : (bt2 x y g).lookup ("gaps" : Str) = some (.ref g) := by
  unfold bt2; rw [lookup_putF, if_pos rfl]
theorem bt_x (x y g s : Addr) (u : Int) : (btF x y g s u).lookup ("xs" : Str) = some (.ref x) := by
  unfold btF bt3 bt2 bt1 bt0
  rw [lookup_putF, if_neg (by decide +kernel), lookup_putF, if_neg (by decide +kernel), lookup_putF, if_neg (by decide +kernel), lookup_putF, if_neg (by decide +kernel), lookup_putF, if_pos rfl]
theorem bt_y (x y g s : Addr) (u : Int) : (btF x y g s u).lookup ("ys" : Str) = some (.ref y) := by
  unfold btF bt3 bt2 bt1
  rw [lookup_putF, if_neg (by decide +kernel), lookup_putF, if_neg (by decide +kernel), lookup_putF, if_neg (by decide +kernel), lookup_putF, if_pos rfl]
theorem bt_g (x y g s : Addr) (u : Int) : (btF x y g s u).lookup ("gaps" : Str) = some (.ref g) := by
  unfold btF bt3 bt2
  rw [lookup_putF, if_neg (by decide +kernel), lookup_putF, if_neg (by decide +kernel), lookup_putF, if_pos rfl]
theorem bt_s (x y g s : Addr) (u : Int) : (btF x y g s u).lookup ("sixths" : Str) = some (.ref s) := by
  unfold btF bt3
  rw [lookup_putF, if_neg (by decide +kernel), lookup_putF, if_pos rfl]
theorem bt_u (x y g s : Addr) (u : Int) : (btF x y g s u).lookup ("under" : Str) = some (.int u) := by
  unfold btF
  rw [lookup_putF, if_pos rfl]
theorem bt_no (x y g s : Addr) (u : Int) {m : Str} (h1 : ¬ m = "xs") (h2 : ¬ m = "ys") (h3 : ¬ m = "gaps") (h4 : ¬ m = "sixths") (h5 : ¬ m = "under") : (btF x y g s u).lookup m = none := by
  unfold btF bt3 bt2 bt1 bt0
  rw [lookup_putF, if_neg h5, lookup_putF, if_neg h4, lookup_putF, if_neg h3, lookup_putF, if_neg h2, lookup_putF, if_neg h1]; rfl
structure BtC (K : PySem.W.Frag) (C : Addr) : Prop where
  cl : Cls K C
  nx : NoAttr K C "xs"
  ny : NoAttr K C "ys"
  ng : NoAttr K C "gaps"
  ns : NoAttr K C "sixths"
  nu : NoAttr K C "under"
/-- the batten of a line stands at p -/
structure BtAt (K : PySem.W.Frag) (C : Addr) (H : Hp) (p : Addr) (L : Line) : Prop where
  at_ : ∃ dx x y g s, H p = some (.ins C dx (btF x y g s L.U)) ∧ SqL K H x (vI L.X (L.n + 1)) ∧ SqL K H y (vI L.Y (L.n + 1)) ∧ SqL K H g (vI L.h L.n) ∧ SqL K H s (vI L.s (L.n + 1))
theorem BtAt.same {K : PySem.W.Frag} {C : Addr} {H H' : Hp} {p : Addr} {L : Line} (t : BtAt K C H p L) (e : Same H H') : BtAt K C H' p L := by
  obtain ⟨dx, x, y, g, s, h, h1, h2, h3, h4⟩ := t.at_
  exact ⟨⟨dx, x, y, g, s, e _ _ h, e.seq h1, e.seq h2, e.seq h3, e.seq h4⟩⟩
def spBtInit (K : PySem.W.Frag) (C : Addr) : Sp := fun vs H Q _ => ∃ (p dx a b : Addr) (L : Line), Small L ∧ L.P = prodL L.h L.n ∧ vs = [.ref p, .ref a, .ref b] ∧ H p = some (.ins C dx []) ∧ SqL K H a (vI L.X (L.n + 1)) ∧ SqL K H b (vI L.Y (L.n + 1)) ∧
  ∀ H', BtAt K C H' p L → But p H H' → Q .non H'
def spBtCov (K : PySem.W.Frag) (C : Addr) : Sp := fun vs H Q _ => ∃ (p : Addr) (L : Line) (a q : Int), vs = [.ref p, .int a, .int q] ∧ Small L ∧ BtAt K C H p L ∧ Q (.bl (decide (L.X 0 * q ≤ a) && decide (a ≤ L.X L.n * q))) H
def spBtHas (K : PySem.W.Frag) (C : Addr) : Sp := fun vs H Q _ => ∃ (p : Addr) (L : Line) (i : Int), vs = [.ref p, .int i] ∧ BtAt K C H p L ∧ Q (.bl (decide (0 ≤ i) && decide (i < L.n))) H
def spBtCat (K : PySem.W.Frag) (C : Addr) : Sp := fun vs H Q _ => ∃ (p : Addr) (L : Line) (a q : Int), vs = [.ref p, .int a, .int q] ∧ Small L ∧ BtAt K C H p L ∧
  ∀ i : Nat, i < L.n → (i = 0 ∨ L.X i * q ≤ a) → (i + 1 = L.n ∨ a < L.X (i + 1) * q) → Q (.int i) H
def spBtCub (K : PySem.W.Frag) (C : Addr) : Sp := fun vs H Q _ => ∃ (p : Addr) (L : Line) (i : Nat), vs = [.ref p, .int i] ∧ Small L ∧ BtAt K C H p L ∧ i < L.n ∧
  ∀ t H', Same H H' → H' t = some (.tup [.int (L.Y i * L.scale i), .int (L.cb i), .int (L.cc i), .int (L.cd i), .int (L.scale i)]) → Q (.ref t) H'
def spBtDer (K : PySem.W.Frag) (C : Addr) : Sp := fun vs H Q _ => ∃ (p : Addr) (L : Line) (a q what : Int), vs = [.ref p, .int a, .int q, .int what] ∧ Small L ∧ BtAt K C H p L ∧ 1 ≤ q ∧ q ≤ 1048576 ∧ 0 ≤ what ∧ what ≤ 2 ∧ L.X 0 * q ≤ a ∧ a ≤ L.X L.n * q ∧
  ∀ (i : Nat) t H', i < L.n → L.X i * q ≤ a → a ≤ L.X (i + 1) * q → Same H H' → H' t = some (.tup [.int (L.dnum i a q what), .int (L.dden i q what)]) → Q (.ref t) H'
theorem vI_last {f : Nat → Int} {n : Nat} : atI (vI f (n + 1)) (-1) = some (.int (f n)) := by
  rw [← vI_snoc]; exact atI_last _ _
section
variable {P : Program} {w : World} {K : PySem.W.Frag} {mg : Str → Option Value} {base : Heap}
theorem scBtInit : FnScope ["self", "xs", "ys", "product", "solved", "i"] ["self", "xs", "ys"] (defScope sBtInit) := ⟨rfl, rfl, rfl, by decide +kernel, rfl, by decide +kernel, by decide +kernel⟩
theorem ok_btInit {f f1 f2 f3 f4 C : Addr} {fd d1 d2 d3 d4 : FuncData} (F : Fun K "__init__" "Batten.__init__" sBtInit f fd) (T : BtC K C)
    (F1 : Fun K "product_of" "product_of" sProd f1 d1) (b1 : Binds K d1 ["numbers"] []) (m1 : mg "product_of" = some (.ref f1))
    (F2 : Fun K "kinks_of" "kinks_of" sKinks f2 d2) (b2 : Binds K d2 ["gaps", "ys", "product"] []) (m2 : mg "kinks_of" = some (.ref f2))
    (F3 : Fun K "eliminate" "eliminate" sElim f3 d3) (b3 : Binds K d3 ["gaps", "kinks"] []) (m3 : mg "eliminate" = some (.ref f3))
    (F4 : Fun K "sixths_of" "sixths_of" sSix f4 d4) (b4 : Binds K d4 ["gaps", "kinks"] []) (m4 : mg "sixths_of" = some (.ref f4))
    (me : mg "enumerate" = none) (mr : mg "range" = none) (ml : mg "len" = none) : FnOk P w K mg base CX0 3 f fd ["self", "xs", "ys"] (spBtInit K C) := by
  have G1 : FnOk P w K mg base CX0 1 f1 d1 ["numbers"] (spProd K) := ok_prod F1
  have G2 : FnOk P w K mg base CX0 1 f2 d2 ["gaps", "ys", "product"] (spKinks K) := ok_kinks F2 me mr ml
  have G4 : FnOk P w K mg base CX0 2 f4 d4 ["gaps", "kinks"] (spSix K) := ok_six F4 F3 b3 m3 mr ml
  refine F.ok scBtInit (fun vs H Q E h => ?_) (fun cdv A outer s H vs Q E hr h => ?_)
  · obtain ⟨p, dx, a, b, L, _, _, rfl, _⟩ := h; rfl
  obtain ⟨p, dx, a, b, L, Z, eP, rfl, hp, hX, hY, q⟩ := h
  have hr1 : Room 1 _ := hr.mono (by decide)
  refine ⟨_, pss_cons (ps_fld (pv 0) (pv 1) rfl)
    (pss_cons (ps_fld (pv 0) (pv 2) rfl)
    (pss_cons (ps_fld (pv 0) (pe_lc (own := [("i", 5)]) rfl scBtInit.nd (pi_range1 rfl mr (pa_cons (pe_op op_sub (pe_callB call_len_seq rfl ml PySem.boot_len (pa_cons (pv 1) pa_nil)) pe_int) pa_nil)) (blkOk_by (by show blkC ["self", "xs", "ys", "product", "solved", "i"] (defScope sBtInit) _ _ = true; decide +kernel))
        (fun _ _ _ _ _ => by exact pg_name (i := 5) scBtInit.nd rfl (Or.inl rfl))
        (fun _ _ _ _ _ => pts_nil)
        (fun _ _ _ _ _ => by exact pe_op op_sub (pe_ix (r := rIxL K) ix_list (pv 1) (pe_op op_add (pv 5) pe_int) (fun _ _ => rfl)) (pe_ix (r := rIxL K) ix_list (pv 1) (pv 5) (fun _ _ => rfl)))) rfl)
    (pss_cons (ps_set (i := 3) scBtInit.nd rfl (Or.inl rfl) (pe_call G1 hr1 rfl m1 F1.kp b1 .nil pass0 (pa_cons (pe_fld (pv 0) rfl) pa_nil)))
    (pss_cons (ps_set (i := 4) scBtInit.nd rfl (Or.inl rfl) (pe_call G4 hr rfl m4 F4.kp b4 .nil pass0 (pa_cons (pe_fld (pv 0) rfl) (pa_cons (pe_call G2 hr1 rfl m2 F2.kp b2 .nil pass0 (pa_cons (pe_fld (pv 0) rfl) (pa_cons (pv 2) (pa_cons (pv 3) pa_nil)))) pa_nil))))
    (pss_cons (ps_fld (pv 0) (pe_ix ix_tup (pv 4) pe_int (fun _ _ => rfl)) rfl)
    (pss_one (ps_fld (pv 0) (pe_op op_mulB (pe_ix ix_tup (pv 4) pe_int (fun _ _ => rfl)) (pv 3)) rfl))))))), ?_⟩
  have n1 := L.hn
  have n2 := Z.n
  refine ⟨_, rfl, _, rfl, p, C, dx, _, rfl, hp, T.cl, T.nx, (by show 0 < 1000; decide), ?_⟩
  refine ⟨_, rfl, _, rfl, p, C, dx, _, rfl, upd_same, T.cl, T.ny, Nat.lt_of_le_of_lt (putF_len _ _ _) (by decide), ?_⟩
  have u1 : But p H (upd (upd H p (.ins C dx (bt0 a))) p (.ins C dx (bt1 a b))) := But.upd.trans But.upd
  have hX1 := u1.seq hp hX
  have hY1 := u1.seq hp hY
  have hp1 : (upd (upd H p (.ins C dx (bt0 a))) p (.ins C dx (bt1 a b))) p = some (.ins C dx (bt1 a b)) := upd_same
  show tSeq _ _ _ _ (upd (upd H p (.ins C dx (bt0 a))) p (.ins C dx (bt1 a b)))
  generalize (upd (upd H p (.ins C dx (bt0 a))) p (.ins C dx (bt1 a b))) = H1 at u1 hX1 hY1 hp1 ⊢
  refine ⟨_, rfl, a, _, rfl, .inl hX1, _, _, rfl, rfl, _, rfl, by rw [vI_len]; omega, by rw [vI_len]; omega, fun D hD => lc_range (lo := 0) (fun i H' => Same H1 H' ∧ H' D = some (.lst (vI L.h i))) ⟨same_new hD _, upd_same⟩ ?_ ?_⟩
  · rintro i H' hi ⟨s1, h1⟩
    rw [vI_len] at hi
    refine ⟨rfl, yesT (iteT ?_)⟩
    refine ⟨_, rfl, _, rfl, _, _, rfl, rfl, a, _, _, _, rfl, rfl, s1.seq hX1, vI_at (i + 1) (by omega) (by omega), _, rfl, _, rfl, a, _, _, _, rfl, rfl, s1.seq hX1, vI_at i (by omega) (by omega), _, _, rfl, rfl, _, h1, by rw [vI_len]; exact small1000 (by omega), same_own s1 hD, ?_⟩
    rw [upd_same, ← vI_snoc L.h i]
    rfl
  rintro H2 ⟨s1, h1⟩
  rw [vI_len, show (((L.n + 1 : Nat) : Int) - 1).toNat = L.n by omega] at h1
  refine ⟨_, rfl, p, C, dx, _, rfl, s1 _ _ hp1, T.cl, T.ng, Nat.lt_of_le_of_lt (putF_len _ _ _) (Nat.lt_of_le_of_lt (Nat.succ_le_succ (putF_len _ _ _)) (by decide)), ?_⟩
  have u2 : But p H1 (upd H2 p (.ins C dx (bt2 a b D))) := fun c o e hc => by rw [upd_ne hc]; exact s1 c o e
  have hX2 := u2.seq hp1 hX1
  have hY2 := u2.seq hp1 hY1
  have hp2 : (upd H2 p (.ins C dx (bt2 a b D))) p = some (.ins C dx (bt2 a b D)) := upd_same
  have hD2 : (upd H2 p (.ins C dx (bt2 a b D))) D = some (.lst (vI L.h L.n)) := by
    rw [upd_ne (ne_of h1 (s1 _ _ hp1) (by intro z; cases z))]; exact h1
  have u12 := u1.trans u2
  show tSeq _ _ _ _ (upd H2 p (.ins C dx (bt2 a b D)))
  generalize (upd H2 p (.ins C dx (bt2 a b D))) = H3 at u2 hX2 hY2 hp2 hD2 u12 ⊢
  refine ⟨_, rfl, p, C, dx, _, _, rfl, hp2, T.cl, T.ng, bt2_g _ _ _, D, L.h, L.n, rfl, SqL.of hD2, fun i hi => Z.h i hi, ?_⟩
  rw [← eP]
  refine ⟨_, rfl, p, C, dx, _, _, rfl, hp2, T.cl, T.ng, bt2_g _ _ _, _, rfl, p, C, dx, _, _, rfl, hp2, T.cl, T.ng, bt2_g _ _ _, _, rfl, _, rfl, D, b, L, Z, rfl, SqL.of hD2, hY2, fun k H4 s4 hk => ?_⟩
  refine ⟨D, k, L, Z, rfl, s4.seq (SqL.of hD2), SqL.of hk, fun t m H5 s5 ht hm hm0 => ?_⟩
  have s35 := s4.trans s5
  have hp5 := s35 _ _ hp2
  refine ⟨_, rfl, t, _, _, _, rfl, rfl, SqT.of ht, rfl, _, rfl, p, C, dx, _, rfl, hp5, T.cl, T.ns, ?_, ?_⟩
  · have := putF_len "gaps" (.ref D) (bt1 a b)
    have := putF_len "ys" (.ref b) (bt0 a)
    have := putF_len "xs" (.ref a) []
    unfold bt2 bt1 bt0 at *
    simp at *
    omega
  have ht6 : (upd H5 p (.ins C dx (bt3 a b D m))) t = some (.tup [.ref m, .int L.W]) := by
    rw [upd_ne (ne_of ht hp5 (by intro z; cases z))]; exact ht
  refine ⟨_, rfl, t, _, _, _, rfl, rfl, SqT.of ht6, rfl, _, rfl, _, _, rfl, rfl, mulOk Z.wB Z.p (by omega), _, rfl, p, C, dx, _, rfl, upd_same, T.cl, T.nu, ?_, ?_⟩
  · have := putF_len "sixths" (.ref m) (bt2 a b D)
    have := putF_len "gaps" (.ref D) (bt1 a b)
    have := putF_len "ys" (.ref b) (bt0 a)
    have := putF_len "xs" (.ref a) []
    unfold bt2 bt1 bt0 at *
    simp at *
    omega
  have u7 : But p H3 (upd (upd H5 p (.ins C dx (bt3 a b D m))) p (.ins C dx (btF a b D m L.U))) := fun c o e hc => by rw [upd_ne hc, upd_ne hc]; exact s35 c o e
  refine q _ ⟨⟨dx, a, b, D, m, upd_same, u7.seq hp2 hX2, u7.seq hp2 hY2, u7.seq hp2 (SqL.of hD2), SqL.of ?_⟩⟩ (u12.trans u7)
  have hmp : m ≠ p := ne_of hm hp5 (by intro z; cases z)
  show (upd (upd H5 p (.ins C dx (bt3 a b D m))) p (.ins C dx (btF a b D m L.U))) m = _
  rw [upd_ne hmp, upd_ne hmp]; exact hm
end
end PB

set_option Elab.async false
set_option linter.all false
set_option maxRecDepth 100000
set_option maxHeartbeats 4000000
namespace PB
open PySem PySem.Spec PyProof.Rows L2
open BM (Line Small B seg prodL)
theorem bnd {x : Int} {m : Nat} (h : B x m) (hm : m ≤ 64) : -(2 ^ 64) < x ∧ x < 2 ^ 64 := by
  have := h.mono hm
  unfold B at this
  omega
section
variable {P : Program} {w : World} {K : PySem.W.Frag} {mg : Str → Option Value} {base : Heap}
theorem scBtCov : FnScope ["self", "p", "q"] ["self", "p", "q"] (defScope sBtCov) := ⟨rfl, rfl, rfl, by decide +kernel, rfl, by decide +kernel, by decide +kernel⟩
theorem ok_btCov {f C : Addr} {fd : FuncData} (F : Fun K "covers" "Batten.covers" sBtCov f fd) (T : BtC K C) : FnOk P w K mg base CX0 1 f fd ["self", "p", "q"] (spBtCov K C) := by
  refine F.ok scBtCov (fun vs H Q E h => ?_) (fun cdv A outer s H vs Q E hr h => ?_)
  · obtain ⟨p, L, a, q, rfl, _⟩ := h; rfl
  obtain ⟨p, L, a, q, rfl, Z, ⟨dx, x, y, g, sx, hp, hX, hY, hG, hS⟩, k⟩ := h
  refine ⟨_, pss_one (ps_ret (pe_chain op_le op_le (pe_op op_mul (pe_ix ix_list (pe_fld (pv 0) rfl) pe_int (fun _ _ => rfl)) (pv 2)) (pv 1) (pe_op op_mul (pe_ix ix_list (pe_fld (pv 0) rfl) (pe_un un_neg pe_int) (fun _ _ => rfl)) (pv 2)))), ?_⟩
  have b0 := Z.x 0 (by omega)
  have bn := Z.x L.n (by omega)
  refine ⟨_, rfl, p, C, dx, _, _, rfl, hp, T.cl, T.nx, bt_x _ _ _ _ _, x, _, _, _, rfl, rfl, hX, vI_at 0 (by omega) rfl, _, rfl, _, _, rfl, rfl, .inl ⟨by omega, by omega⟩, _, rfl, _, _, rfl, rfl, _, rfl, ite2 (fun z => ?_) (fun z => ?_)⟩
  · refine ⟨_, rfl, p, C, dx, _, _, rfl, hp, T.cl, T.nx, bt_x _ _ _ _ _, _, rfl, x, _, _, _, rfl, rfl, hX, vI_last, _, rfl, _, _, rfl, rfl, .inl ⟨by omega, by omega⟩, _, _, rfl, rfl, ?_⟩
    rw [z, Bool.true_and] at k
    exact k
  · rw [Bool.eq_false_iff.mpr z, Bool.false_and] at k
    exact k
theorem scBtHas : FnScope ["self", "i"] ["self", "i"] (defScope sBtHas) := ⟨rfl, rfl, rfl, by decide +kernel, rfl, by decide +kernel, by decide +kernel⟩
theorem ok_btHas {f C : Addr} {fd : FuncData} (F : Fun K "has_cubic" "Batten.has_cubic" sBtHas f fd) (T : BtC K C) (ml : mg "len" = none) : FnOk P w K mg base CX0 1 f fd ["self", "i"] (spBtHas K C) := by
  refine F.ok scBtHas (fun vs H Q E h => ?_) (fun cdv A outer s H vs Q E hr h => ?_)
  · obtain ⟨p, L, i, rfl, _⟩ := h; rfl
  obtain ⟨p, L, i, rfl, ⟨dx, x, y, g, sx, hp, hX, hY, hG, hS⟩, k⟩ := h
  refine ⟨_, pss_one (ps_ret (pe_chain op_le op_lt pe_int (pv 1) (pe_callB call_len_seq rfl ml PySem.boot_len (pa_cons (pe_fld (pv 0) rfl) pa_nil)))), ?_⟩
  refine ⟨_, rfl, _, _, rfl, rfl, _, rfl, ite2 (fun z => ?_) (fun z => ?_)⟩
  · refine ⟨_, rfl, p, C, dx, _, _, rfl, hp, T.cl, T.ng, bt_g _ _ _ _ _, g, _, rfl, .inl hG, _, _, rfl, rfl, ?_⟩
    rw [z, Bool.true_and] at k
    rw [vI_len]
    exact k
  · rw [Bool.eq_false_iff.mpr z, Bool.false_and] at k
    exact k
theorem scBtCat : FnScope ["self", "p", "q", "i"] ["self", "p", "q"] (defScope sBtCat) := ⟨rfl, rfl, rfl, by decide +kernel, rfl, by decide +kernel, by decide +kernel⟩
theorem ok_btCat {f C : Addr} {fd : FuncData} (F : Fun K "cubic_at" "Batten.cubic_at" sBtCat f fd) (T : BtC K C) (ml : mg "len" = none) : FnOk P w K mg base CX0 1 f fd ["self", "p", "q"] (spBtCat K C) := by
  refine F.ok scBtCat (fun vs H Q E h => ?_) (fun cdv A outer s H vs Q E hr h => ?_)
  · obtain ⟨p, L, a, q, rfl, _⟩ := h; rfl
  obtain ⟨p, L, a, q, rfl, Z, ⟨dx, x, y, g, sx, hp, hX, hY, hG, hS⟩, k⟩ := h
  refine ⟨_, pss_cons (ps_set (i := 3) scBtCat.nd rfl (Or.inl rfl) pe_int)
    (pss_cons (ps_while PassesOwn.never (PW.pt (pw_and (pt_cmpR op_lt (pe_op op_add (pv 3) pe_int) (pe_callB call_len_seq rfl ml PySem.boot_len (pa_cons (pe_fld (pv 0) rfl) pa_nil)) (nomark _)) (pw_and1 (pt_cmpR op_le (pe_op op_mul (pe_ix ix_list (pe_fld (pv 0) rfl) (pe_op op_add (pv 3) pe_int) (fun _ _ => rfl)) (pv 2)) (pv 1) (nomark _)))))
      (pss_one (ps_set (i := 3) scBtCat.nd rfl (Or.inl rfl) (pe_op op_add (pv 3) pe_int))))
    (pss_one (ps_ret (pv 3)))), ?_⟩
  have n1 := L.hn
  refine while_by (fun σ H' => H' = H ∧ ∃ i : Nat, σ = [some (.ref p), some (.int a), some (.int q), some (.int i)] ∧ i < L.n ∧ (i = 0 ∨ L.X i * q ≤ a))
    (fun σ _ => match σ with | [_, _, _, some (.int y)] => L.n - y.toNat | _ => 0) ⟨rfl, 0, rfl, by omega, .inl rfl⟩ ?_ ?_
  · rintro σ H' ⟨rfl, i, rfl, hi, hl⟩
    refine ⟨_, rfl, _, _, rfl, rfl, _, rfl, p, C, dx, _, _, rfl, hp, T.cl, T.ng, bt_g _ _ _ _ _, g, _, rfl, .inl hG, _, _, rfl, rfl, _, rfl, ite2 (fun z => ?_) (fun z => iteF ?_)⟩
    · have z' : (i : Int) + 1 < ((vI L.h L.n).length : Int) := of_decide_eq_true z
      rw [vI_len] at z'
      have b1 := Z.x (i + 1) (by omega)
      refine ⟨_, rfl, p, C, dx, _, _, rfl, hp, T.cl, T.nx, bt_x _ _ _ _ _, _, rfl, _, _, rfl, rfl, x, _, _, _, rfl, rfl, hX, vI_at (i + 1) (by omega) (by omega), _, rfl, _, _, rfl, rfl, .inl ⟨by omega, by omega⟩, _, rfl, _, _, rfl, rfl, _, rfl, ite2 (fun y => ?_) (fun y => ?_)⟩
      · have y' : L.X (i + 1) * q ≤ a := of_decide_eq_true y
        refine ⟨_, rfl, _, _, rfl, rfl, ⟨rfl, i + 1, ?_, by omega, .inr y'⟩, ?_⟩
        · rw [show ((i + 1 : Nat) : Int) = (i : Int) + 1 by omega]; rfl
        · show L.n - ((i : Int) + 1).toNat < L.n - (i : Int).toNat
          omega
      · have y' : ¬ L.X (i + 1) * q ≤ a := of_decide_eq_false (Bool.eq_false_iff.mpr y)
        exact ⟨_, rfl, k i hi hl (.inr (by omega))⟩
    · have z' : ¬ (i : Int) + 1 < ((vI L.h L.n).length : Int) := of_decide_eq_false (Bool.eq_false_iff.mpr z)
      rw [vI_len] at z'
      exact ⟨_, rfl, k i hi hl (.inl (by omega))⟩
  · rintro σ H' Q1 Q2 hq ⟨v1, e1, i1, j1, r1, r2, v2, e2, p1, C1, d1, fs, v3, r3, r4, r5, r6, r7, p2, ys, r8, r9, i2, j2, r10, r11, b, r12, z⟩
    refine ⟨v1, e1, i1, j1, r1, r2, v2, e2, p1, C1, d1, fs, v3, r3, r4, r5, r6, r7, p2, ys, r8, r9, i2, j2, r10, r11, b, r12, ?_⟩
    cases b with
    | false => exact iteF (hq _ _ (by simpa using z))
    | true =>
      rw [if_pos rfl] at z
      refine iteT ?_
      obtain ⟨v1, e1, p1, C1, d1, fs, v3, r3, r4, r5, r6, v2, e2, i1, j1, r1, r2, p2, ys, i2, v4, s1, s2, s3, s4, v5, e5, i3, j3, s5, s6, s7, v6, e6, i4, j4, s8, s9, b2, s10, r13, z2⟩ := z
      exact ⟨v1, e1, p1, C1, d1, fs, v3, r3, r4, r5, r6, v2, e2, i1, j1, r1, r2, p2, ys, i2, v4, s1, s2, s3, s4, v5, e5, i3, j3, s5, s6, s7, v6, e6, i4, j4, s8, s9, b2, s10, r13, hq _ _ z2⟩
theorem scBtCub : FnScope ["self", "i", "gap", "first", "second", "scale", "rise", "b"] ["self", "i"] (defScope sBtCub) := ⟨rfl, rfl, rfl, by decide +kernel, rfl, by decide +kernel, by decide +kernel⟩
theorem ok_btCub {f C : Addr} {fd : FuncData} (F : Fun K "cubic" "Batten.cubic" sBtCub f fd) (T : BtC K C) : FnOk P w K mg base CX0 1 f fd ["self", "i"] (spBtCub K C) := by
  refine F.ok scBtCub (fun vs H Q E h => ?_) (fun cdv A outer s H vs Q E hr h => ?_)
  · obtain ⟨p, L, i, rfl, _⟩ := h; rfl
  obtain ⟨p, L, i, rfl, Z, ⟨dx, x, y, g, sx, hp, hX, hY, hG, hS⟩, hi, k⟩ := h
  refine ⟨_, pss_cons (ps_set (i := 2) scBtCub.nd rfl (Or.inl rfl) (pe_ix ix_list (pe_fld (pv 0) rfl) (pv 1) (fun _ _ => rfl)))
    (pss_cons (ps_set (i := 3) scBtCub.nd rfl (Or.inl rfl) (pe_ix ix_list (pe_fld (pv 0) rfl) (pv 1) (fun _ _ => rfl)))
    (pss_cons (ps_set (i := 4) scBtCub.nd rfl (Or.inl rfl) (pe_ix ix_list (pe_fld (pv 0) rfl) (pe_op op_add (pv 1) pe_int) (fun _ _ => rfl)))
    (pss_cons (ps_set (i := 5) scBtCub.nd rfl (Or.inl rfl) (pe_op op_mul (pv 2) (pe_fld (pv 0) rfl)))
    (pss_cons (ps_set (i := 6) scBtCub.nd rfl (Or.inl rfl) (pe_op op_sub (pe_ix ix_list (pe_fld (pv 0) rfl) (pe_op op_add (pv 1) pe_int) (fun _ _ => rfl)) (pe_ix ix_list (pe_fld (pv 0) rfl) (pv 1) (fun _ _ => rfl))))
    (pss_cons (ps_set (i := 7) scBtCub.nd rfl (Or.inl rfl) (pe_op op_sub (pe_op op_mul (pe_fld (pv 0) rfl) (pv 6)) (pe_op op_mul (pe_op op_mul (pv 2) (pv 2)) (pe_op op_add (pe_op op_mul pe_int (pv 3)) (pv 4)))))
    (pss_one (ps_ret (pe_tup (pa_cons (pe_op op_mul (pe_ix ix_list (pe_fld (pv 0) rfl) (pv 1) (fun _ _ => rfl)) (pv 5)) (pa_cons (pv 7) (pa_cons (pe_op op_mul (pe_op op_mul pe_int (pv 2)) (pv 3)) (pa_cons (pe_op op_sub (pv 4) (pv 3)) (pa_cons (pv 5) pa_nil))))))))))))), ?_⟩
  have hh := Z.h i hi
  have h2 := bnd ((Z.hB i hi).mul (Z.hB i hi)) (by omega)
  have rb := bnd (Z.rB i hi) (by omega)
  have yb := bnd (Z.yB i (by omega)) (by omega)
  refine ⟨_, rfl, p, C, dx, _, _, rfl, hp, T.cl, T.ng, bt_g _ _ _ _ _, _, rfl, g, _, _, _, rfl, rfl, hG, vI_at i hi rfl, ?_⟩
  refine ⟨_, rfl, p, C, dx, _, _, rfl, hp, T.cl, T.ns, bt_s _ _ _ _ _, _, rfl, sx, _, _, _, rfl, rfl, hS, vI_at i (by omega) rfl, ?_⟩
  refine ⟨_, rfl, p, C, dx, _, _, rfl, hp, T.cl, T.ns, bt_s _ _ _ _ _, _, rfl, _, _, rfl, rfl, sx, _, _, _, rfl, rfl, hS, vI_at (i + 1) (by omega) (by omega), ?_⟩
  refine ⟨_, rfl, _, rfl, p, C, dx, _, _, rfl, hp, T.cl, T.nu, bt_u _ _ _ _ _, _, _, rfl, rfl, .inl ⟨by omega, by omega⟩, ?_⟩
  refine ⟨_, rfl, p, C, dx, _, _, rfl, hp, T.cl, T.ny, bt_y _ _ _ _ _, _, rfl, _, _, rfl, rfl, y, _, _, _, rfl, rfl, hY, vI_at (i + 1) (by omega) (by omega), _, rfl, p, C, dx, _, _, rfl, hp, T.cl, T.ny, bt_y _ _ _ _ _, _, rfl, y, _, _, _, rfl, rfl, hY, vI_at i (by omega) rfl, _, _, rfl, rfl, ?_⟩
  refine ⟨_, rfl, p, C, dx, _, _, rfl, hp, T.cl, T.nu, bt_u _ _ _ _ _, _, rfl, _, _, rfl, rfl, .inr rb, _, rfl, _, rfl, _, _, rfl, rfl, .inl ⟨by omega, by omega⟩, _, rfl, _, _, rfl, rfl, .inl ⟨by decide, by decide⟩, _, rfl, _, _, rfl, rfl, _, _, rfl, rfl, .inl h2, _, _, rfl, rfl, ?_⟩
  refine ⟨_, rfl, p, C, dx, _, _, rfl, hp, T.cl, T.ny, bt_y _ _ _ _ _, _, rfl, y, _, _, _, rfl, rfl, hY, vI_at i (by omega) rfl, _, rfl, _, _, rfl, rfl, .inl yb, _, rfl, _, rfl, _, _, rfl, rfl, .inl ⟨by decide, by decide⟩, _, rfl, _, _, rfl, rfl, .inl ⟨by omega, by omega⟩, _, rfl, _, rfl, _, _, rfl, rfl, _, rfl, by show 5 ≤ sizeLine; decide, fun t ht => ?_⟩
  exact k t _ (same_new ht _) upd_same
theorem scBtDer : FnScope ["self", "p", "q", "what", "i", "cubic", "a", "b", "c", "d", "scale", "t"] ["self", "p", "q", "what"] (defScope sBtDer) := ⟨rfl, rfl, rfl, by decide +kernel, rfl, by decide +kernel, by decide +kernel⟩
theorem ok_btDer {f f1 f2 C : Addr} {fd d1 d2 : FuncData} (F : Fun K "derived" "Batten.derived" sBtDer f fd) (T : BtC K C)
    (F1 : Fun K "cubic_at" "Batten.cubic_at" sBtCat f1 d1) (b1 : Binds K d1 ["self", "p", "q"] []) (m1 : Meth K C "cubic_at" f1)
    (F2 : Fun K "cubic" "Batten.cubic" sBtCub f2 d2) (b2 : Binds K d2 ["self", "i"] []) (m2 : Meth K C "cubic" f2) (ml : mg "len" = none) : FnOk P w K mg base CX0 2 f fd ["self", "p", "q", "what"] (spBtDer K C) := by
  have G1 : FnOk P w K mg base CX0 1 f1 d1 ["self", "p", "q"] (spBtCat K C) := ok_btCat F1 T ml
  have G2 : FnOk P w K mg base CX0 1 f2 d2 ["self", "i"] (spBtCub K C) := ok_btCub F2 T
  refine F.ok scBtDer (fun vs H Q E h => ?_) (fun cdv A outer s H vs Q E hr h => ?_)
  · obtain ⟨p, L, a, q, wh, rfl, _⟩ := h; rfl
  obtain ⟨p, L, a, q, wh, rfl, Z, TB, q1, q2, w0, w2, c0, cn, k⟩ := h
  refine ⟨_, pss_cons (ps_set (i := 4) scBtDer.nd rfl (Or.inl rfl) (pe_meth (pv 0) T.cl m1 G1 hr b1 .nil pass0 (pa_cons (pv 1) (pa_cons (pv 2) pa_nil))))
    (pss_cons (ps_set (i := 5) scBtDer.nd rfl (Or.inl rfl) (pe_meth (pv 0) T.cl m2 G2 hr b2 .nil pass0 (pa_cons (pv 4) pa_nil)))
    (pss_cons (ps_set (i := 6) scBtDer.nd rfl (Or.inl rfl) (pe_ix ix_tup (pv 5) pe_int (fun _ _ => rfl)))
    (pss_cons (ps_set (i := 7) scBtDer.nd rfl (Or.inl rfl) (pe_ix ix_tup (pv 5) pe_int (fun _ _ => rfl)))
    (pss_cons (ps_set (i := 8) scBtDer.nd rfl (Or.inl rfl) (pe_ix ix_tup (pv 5) pe_int (fun _ _ => rfl)))
    (pss_cons (ps_set (i := 9) scBtDer.nd rfl (Or.inl rfl) (pe_ix ix_tup (pv 5) pe_int (fun _ _ => rfl)))
    (pss_cons (ps_set (i := 10) scBtDer.nd rfl (Or.inl rfl) (pe_ix ix_tup (pv 5) pe_int (fun _ _ => rfl)))
    (pss_cons (ps_set (i := 11) scBtDer.nd rfl (Or.inl rfl) (pe_op op_sub (pv 1) (pe_op op_mul (pe_ix ix_list (pe_fld (pv 0) rfl) (pv 4) (fun _ _ => rfl)) (pv 2))))
    (pss_cons (ps_if (pt_cmpR op_eq (pv 3) pe_int (nomark _)) (pss_one (ps_ret (pe_tup (pa_cons
        (pe_op op_add (pe_op op_mul (pe_op op_add (pe_op op_mul (pe_op op_add (pe_op op_mul (pv 9) (pv 11)) (pe_op op_mul (pv 8) (pv 2))) (pv 11)) (pe_op op_mul (pe_op op_mul (pv 7) (pv 2)) (pv 2))) (pv 11)) (pe_op op_mul (pv 6) (pe_op op_pow (pv 2) pe_int)))
        (pa_cons (pe_op op_mul (pv 10) (pe_op op_pow (pv 2) pe_int)) pa_nil))))) pss_nil)
    (pss_cons (ps_if (pt_cmpR op_eq (pv 3) pe_int (nomark _)) (pss_one (ps_ret (pe_tup (pa_cons
        (pe_op op_add (pe_op op_mul (pe_op op_add (pe_op op_mul (pe_op op_mul pe_int (pv 9)) (pv 11)) (pe_op op_mul (pe_op op_mul pe_int (pv 8)) (pv 2))) (pv 11)) (pe_op op_mul (pe_op op_mul (pv 7) (pv 2)) (pv 2)))
        (pa_cons (pe_op op_mul (pe_op op_mul (pv 10) (pv 2)) (pv 2)) pa_nil))))) pss_nil)
    (pss_one (ps_ret (pe_tup (pa_cons (pe_op op_add (pe_op op_mul (pe_op op_mul pe_int (pv 9)) (pv 11)) (pe_op op_mul (pe_op op_mul pe_int (pv 8)) (pv 2))) (pa_cons (pe_op op_mul (pv 10) (pv 2)) pa_nil)))))))))))))), ?_⟩
  have TB' := TB
  obtain ⟨dx, x, y, g, sx, hp, hX, hY, hG, hS⟩ := TB
  refine ⟨_, rfl, p, dx, _, rfl, hp, bt_no _ _ _ _ _ (by decide +kernel) (by decide +kernel) (by decide +kernel) (by decide +kernel) (by decide +kernel), _, rfl, _, rfl, p, L, a, q, rfl, Z, TB', fun i hi lo up => ?_⟩
  refine ⟨_, rfl, p, dx, _, rfl, hp, bt_no _ _ _ _ _ (by decide +kernel) (by decide +kernel) (by decide +kernel) (by decide +kernel) (by decide +kernel), _, rfl, p, L, i, rfl, Z, TB', hi, fun t H1 s1 ht => ?_⟩
  have lo' : L.X i * q ≤ a := by
    rcases lo with e | e
    · subst e; exact c0
    · exact e
  have up' : a ≤ L.X (i + 1) * q := by
    rcases up with e | e
    · rw [e]; exact cn
    · omega
  have qb : B q 21 := by unfold B; omega
  have xB : ∀ j, j ≤ L.n → B (L.X j * q) 41 := fun j hj => (show B (L.X j) 20 by have := Z.x j hj; unfold B; omega).mul qb
  have tb : B (a - L.X i * q) 42 := by
    have e1 := xB i (by omega)
    have e2 := xB (i + 1) (by omega)
    unfold B at *
    omega
  have tw := bnd tb (by omega)
  have qw : -(2 ^ 64) < q ∧ q < 2 ^ 64 := ⟨by omega, by omega⟩
  have q3 : B (q ^ 3) 63 := by
    rw [show q ^ 3 = q * q * q by rw [Int.pow_succ, Int.pow_succ, Int.pow_succ, Int.pow_zero, Int.one_mul]]
    exact (qb.mul qb).mul qb
  have q3w := bnd q3 (by omega)
  have xw := Z.x i (by omega)
  have pw : CPow q 3 := ⟨by decide, by decide, by omega⟩
  have sm : (-(2 ^ 64) < (3 : Int) ∧ (3 : Int) < 2 ^ 64) := ⟨by decide, by decide⟩
  refine ⟨_, rfl, t, _, _, _, rfl, rfl, SqT.of ht, rfl, _, rfl, t, _, _, _, rfl, rfl, SqT.of ht, rfl, _, rfl, t, _, _, _, rfl, rfl, SqT.of ht, rfl, _, rfl, t, _, _, _, rfl, rfl, SqT.of ht, rfl, _, rfl, t, _, _, _, rfl, rfl, SqT.of ht, rfl, ?_⟩
  refine ⟨_, rfl, _, rfl, p, C, dx, _, _, rfl, s1 _ _ hp, T.cl, T.nx, bt_x _ _ _ _ _, _, rfl, x, _, _, _, rfl, rfl, s1.seq hX, vI_at i (by omega) rfl, _, rfl, _, _, rfl, rfl, .inr qw, _, _, rfl, rfl, ?_⟩
  have fin : ∀ u v, L.dnum i a q wh = u → L.dden i q wh = v → (2 ≤ sizeLine ∧ ∀ t', H1 t' = none → Q (.ref t') (upd H1 t' (.tup [.int u, .int v]))) := fun u v e1 e2 => ⟨by decide, fun t' ht' => k i t' _ hi lo' up' (s1.trans (same_new ht' _)) (by rw [upd_same, e1, e2])⟩
  refine ⟨_, rfl, rfl, _, rfl, ite2 (fun z => ?_) (fun z => ?_)⟩
  · have z' : V.int wh = V.int 0 := of_decide_eq_true z
    injection z' with z'
    subst z'
    refine ⟨_, rfl, _, rfl, _, _, rfl, rfl, .inr tw, _, rfl, _, rfl, _, _, rfl, rfl, .inr qw, _, _, rfl, rfl, _, rfl, _, _, rfl, rfl, .inr tw, _, rfl, _, rfl, _, _, rfl, rfl, .inr qw, _, rfl, _, _, rfl, rfl, .inr qw, _, _, rfl, rfl, _, rfl, _, _, rfl, rfl, .inr tw,
      _, rfl, _, rfl, _, _, rfl, rfl, pw, _, _, rfl, rfl, .inr q3w, _, _, rfl, rfl, _, rfl, _, rfl, _, _, rfl, rfl, pw, _, _, rfl, rfl, .inr q3w, ?_⟩
    exact fin _ _ rfl rfl
  have z0 : ¬ wh = 0 := fun e => of_decide_eq_false (Bool.eq_false_iff.mpr z) (congrArg V.int e)
  refine ⟨_, rfl, rfl, _, rfl, ite2 (fun z => ?_) (fun z => ?_)⟩
  · have z' : V.int wh = V.int 1 := of_decide_eq_true z
    injection z' with z'
    subst z'
    refine ⟨_, rfl, _, _, rfl, rfl, .inl ⟨by decide, by decide⟩, _, rfl, _, _, rfl, rfl, .inr tw, _, rfl, _, _, rfl, rfl, .inl ⟨by decide, by decide⟩, _, rfl, _, _, rfl, rfl, .inr qw, _, _, rfl, rfl, _, rfl, _, _, rfl, rfl, .inr tw, _, rfl, _, rfl, _, _, rfl, rfl, .inr qw, _, rfl, _, _, rfl, rfl, .inr qw, _, _, rfl, rfl,
      _, rfl, _, rfl, _, _, rfl, rfl, .inr qw, _, rfl, _, _, rfl, rfl, .inr qw, ?_⟩
    exact fin _ _ rfl rfl
  have z1 : ¬ wh = 1 := fun e => of_decide_eq_false (Bool.eq_false_iff.mpr z) (congrArg V.int e)
  refine ⟨_, rfl, _, _, rfl, rfl, .inl ⟨by decide, by decide⟩, _, rfl, _, _, rfl, rfl, .inr tw, _, rfl, _, _, rfl, rfl, .inl ⟨by decide, by decide⟩, _, rfl, _, _, rfl, rfl, .inr qw, _, _, rfl, rfl, _, rfl, _, rfl, _, _, rfl, rfl, .inr qw, ?_⟩
  refine fin _ _ ?_ ?_
  · unfold Line.dnum; dsimp only; rw [if_neg z0, if_neg z1]
  · unfold Line.dden; rw [if_neg z0, if_neg z1]
end
end PB

set_option Elab.async false
set_option linter.all false
set_option maxRecDepth 100000
set_option maxHeartbeats 4000000
namespace PB
open PySem PySem.Spec PyProof.Rows L2
open BM (Line Small B seg prodL bent chg dif)
abbrev sBtBend : Stmt := inClass (top 15) 6
abbrev sBtTurn : Stmt := inClass (top 15) 7
abbrev sBtTop : Stmt := inClass (top 15) 8
def spBtBend (K : PySem.W.Frag) (C : Addr) : Sp := fun vs H Q _ => ∃ (p : Addr) (L : Line), vs = [.ref p] ∧ Small L ∧ BtAt K C H p L ∧ ∀ t H', Same H H' → H' t = some (.tup [.int (12 * L.bsum L.n), .int (L.U * L.U)]) → Q (.ref t) H'
def spBtTurn (K : PySem.W.Frag) (C : Addr) : Sp := fun vs H Q _ => ∃ (p : Addr) (L : Line), vs = [.ref p] ∧ Small L ∧ BtAt K C H p L ∧ ∀ H', Same H H' → Q (.int (chg (bent L.s (L.n + 1)) ((bent L.s (L.n + 1)).length - 1) : Nat)) H'
def spBtTop (K : PySem.W.Frag) (C : Addr) : Sp := fun vs H Q _ => ∃ (p : Addr) (L : Line), vs = [.ref p] ∧ Small L ∧ BtAt K C H p L ∧ ∀ H', Same H H' → Q (.int (Loft.top (seg L.pc 0 L.n))) H'
theorem vI_map (f : Nat → Int) (n : Nat) : vI f n = (seg f 0 n).map V.int := by
  unfold vI
  rw [BM.seg_map]
theorem neV {a : Int} : (!decide (V.int a = V.int 0)) = true ↔ a ≠ 0 := by
  by_cases h : a = 0
  · subst h; simp
  · have : ¬ V.int a = V.int 0 := fun e => h (by injection e)
    rw [decide_eq_false this]; simp [h]
theorem difV {x y : Int} : (!decide (V.bl (decide (x > 0)) = V.bl (decide (y > 0)))) = true ↔ dif x y = true := by
  unfold dif
  rw [bne_iff_ne, Bool.not_eq_true', decide_eq_false_iff_not]
  constructor
  · intro h e; exact h (by rw [e])
  · intro h e; injection e with e; exact h e
theorem at_map {l : List Int} {z : Int} (j : Nat) (h : j < l.length) (e : z = (j : Int)) : atI (l.map V.int) z = some (.int (l.getD j 0)) := by
  refine at_of e ?_
  rw [List.getElem?_map, List.getElem?_eq_getElem h]
  simp [List.getD, h]
theorem cubB {L : Line} (Z : Small L) {i : Nat} (hi : i < L.n) : CubB (L.Y i * L.scale i) (L.cb i) (L.cc i) (L.cd i) (L.scale i) (L.h i) :=
  ⟨((Z.yB i (by omega)).mul (Z.scB i hi)).mono (by omega), Z.cbB i hi, Z.ccB i hi, Z.cdB i hi, Z.scB i hi, Z.hB i hi⟩
section
variable {P : Program} {w : World} {K : PySem.W.Frag} {mg : Str → Option Value} {base : Heap}
theorem scBtBend : FnScope ["self", "above", "i", "gap", "first", "second"] ["self"] (defScope sBtBend) := ⟨rfl, rfl, rfl, by decide +kernel, rfl, by decide +kernel, by decide +kernel⟩
theorem bsum_next (L : Line) (i : Nat) : 12 * L.bsum i + 12 * L.h i * (L.s i * L.s i + L.s i * L.s (i + 1) + L.s (i + 1) * L.s (i + 1)) = 12 * L.bsum (i + 1) := by
  show _ = 12 * (L.bsum i + L.h i * (L.s i * L.s i + L.s i * L.s (i + 1) + L.s (i + 1) * L.s (i + 1)))
  generalize L.s i * L.s i + L.s i * L.s (i + 1) + L.s (i + 1) * L.s (i + 1) = q
  rw [Int.mul_add, Int.mul_assoc 12]
theorem ok_btBend {f C : Addr} {fd : FuncData} (F : Fun K "bending" "Batten.bending" sBtBend f fd) (T : BtC K C) (me : mg "enumerate" = none) : FnOk P w K mg base CX0 1 f fd ["self"] (spBtBend K C) := by
  refine F.ok scBtBend (fun vs H Q E h => ?_) (fun cdv A outer s H vs Q E hr h => ?_)
  · obtain ⟨p, L, rfl, _⟩ := h; rfl
  obtain ⟨p, L, rfl, Z, ⟨dx, x, y, g, sx, hp, hX, hY, hG, hS⟩, k⟩ := h
  refine ⟨_, pss_cons (ps_set (i := 1) scBtBend.nd rfl (Or.inl rfl) pe_int)
    (pss_cons (ps_for PassesOwn.never rfl (pi_enum rfl me (pa_cons (pe_fld (pv 0) rfl) pa_nil)) (pg_tup rfl (pgs_cons (pg_name (i := 2) scBtBend.nd rfl (Or.inl rfl)) (pgs_cons (pg_name (i := 3) scBtBend.nd rfl (Or.inl rfl)) pgs_nil)))
      (pss_cons (ps_set (i := 4) scBtBend.nd rfl (Or.inl rfl) (pe_ix ix_list (pe_fld (pv 0) rfl) (pv 2) (fun _ _ => rfl)))
      (pss_cons (ps_set (i := 5) scBtBend.nd rfl (Or.inl rfl) (pe_ix ix_list (pe_fld (pv 0) rfl) (pe_op op_add (pv 2) pe_int) (fun _ _ => rfl)))
      (pss_one (ps_set (i := 1) scBtBend.nd rfl (Or.inl rfl) (pe_op op_add (pv 1) (pe_op op_mul (pe_op op_mul pe_int (pv 3)) (pe_op op_add (pe_op op_add (pe_op op_mulB (pv 4) (pv 4)) (pe_op op_mulB (pv 4) (pv 5))) (pe_op op_mulB (pv 5) (pv 5))))))))))
    (pss_one (ps_ret (pe_tup (pa_cons (pv 1) (pa_cons (pe_op op_mulB (pe_fld (pv 0) rfl) (pe_fld (pv 0) rfl)) pa_nil)))))), ?_⟩
  refine ⟨_, rfl, p, C, dx, _, _, rfl, hp, T.cl, T.ng, bt_g _ _ _ _ _, g, _, rfl, hG, for_enum (xs := vI L.h L.n) (fun i σ H' => Same H H' ∧ ∃ v2 v3 v4 v5 : Option V, σ = [some (.ref p), some (.int (12 * L.bsum i)), v2, v3, v4, v5])
    ⟨Same.refl H, none, none, none, none, rfl⟩ (fun i σ H' _ ⟨s, _⟩ => s.seq hG) ?_ ?_⟩
  · rintro i z σ H' t hz ⟨s1, v2, v3, v4, v5, rfl⟩ ht
    obtain ⟨hi, rfl⟩ := vI_some hz
    have s2 : Same H (upd H' t (.tup [.int (i : Nat), .int (L.h i)])) := s1.trans (same_new ht _)
    have hp2 := s2 _ _ hp
    have hh := Z.h i hi
    have x0 := Z.xB i (by omega)
    have x1 := Z.xB (i + 1) (by omega)
    refine ⟨t, _, rfl, seqT, rfl, _, _, rfl, _, _, rfl, rfl, ?_⟩
    refine ⟨_, rfl, p, C, dx, _, _, rfl, hp2, T.cl, T.ns, bt_s _ _ _ _ _, _, rfl, sx, _, _, _, rfl, rfl, s2.seq hS, vI_at i (by omega) rfl, ?_⟩
    refine ⟨_, rfl, p, C, dx, _, _, rfl, hp2, T.cl, T.ns, bt_s _ _ _ _ _, _, rfl, _, _, rfl, rfl, sx, _, _, _, rfl, rfl, s2.seq hS, vI_at (i + 1) (by omega) (by omega), ?_⟩
    refine ⟨_, rfl, _, rfl, _, _, rfl, rfl, .inl ⟨by decide, by decide⟩, _, rfl, _, rfl, _, _, rfl, rfl, mulOk x0 x0 (by omega), _, rfl, _, rfl, _, _, rfl, rfl, mulOk x0 x1 (by omega), _, _, rfl, rfl, _, rfl, _, rfl, _, _, rfl, rfl, mulOk x1 x1 (by omega), _, _, rfl, rfl, _, _, rfl, rfl, .inl ⟨by omega, by omega⟩, _, _, rfl, rfl, ?_⟩
    exact ⟨s2, some (.int (i : Nat)), some (.int (L.h i)), some (.int (L.s i)), some (.int (L.s (i + 1))), by rw [← bsum_next L i]; rfl⟩
  · rintro σ H' ⟨s1, v2, v3, v4, v5, rfl⟩
    rw [vI_len]
    have hp1 := s1 _ _ hp
    refine ⟨_, rfl, _, rfl, p, C, dx, _, _, rfl, hp1, T.cl, T.nu, bt_u _ _ _ _ _, _, rfl, p, C, dx, _, _, rfl, hp1, T.cl, T.nu, bt_u _ _ _ _ _, _, _, rfl, rfl, mulOk Z.uB Z.uB (by omega), by show 2 ≤ sizeLine; decide, fun t ht => ?_⟩
    exact k t _ (s1.trans (same_new ht _)) upd_same
theorem scBtTop : FnScope ["self", "found", "i", "gap", "cubic"] ["self"] (defScope sBtTop) := ⟨rfl, rfl, rfl, by decide +kernel, rfl, by decide +kernel, by decide +kernel⟩
theorem ok_btTop {f f1 f2 f3 C : Addr} {fd d1 d2 d3 : FuncData} (F : Fun K "top" "Batten.top" sBtTop f fd) (T : BtC K C)
    (F1 : Fun K "cubic" "Batten.cubic" sBtCub f1 d1) (b1 : Binds K d1 ["self", "i"] []) (m1 : Meth K C "cubic" f1)
    (G2 : FnOk P w K mg base CX0 2 f2 d2 ["cubic", "gap"] (spHas K)) (b2 : Binds K d2 ["cubic", "gap"] []) (m2 : mg "has_crest" = some (.ref f2)) (k2 : PySem.W.keepIn K (.ref f2) = true)
    (G3 : FnOk P w K mg base CX0 2 f3 d3 ["cubic"] (spCrest K)) (b3 : Binds K d3 ["cubic"] []) (m3 : mg "crest_ceiling" = some (.ref f3)) (k3 : PySem.W.keepIn K (.ref f3) = true)
    (me : mg "enumerate" = none) (mmax : mg "max" = none) : FnOk P w K mg base CX0 3 f fd ["self"] (spBtTop K C) := by
  have G1 : FnOk P w K mg base CX0 1 f1 d1 ["self", "i"] (spBtCub K C) := ok_btCub F1 T
  refine F.ok scBtTop (fun vs H Q E h => ?_) (fun cdv A outer s H vs Q E hr h => ?_)
  · obtain ⟨p, L, rfl, _⟩ := h; rfl
  obtain ⟨p, L, rfl, Z, TB, k⟩ := h
  have hr1 : Room 1 _ := hr.mono (by decide)
  refine ⟨_, pss_cons (ps_set (i := 1) scBtTop.nd rfl (Or.inl rfl) (pe_callB (cr_max rfl) rfl mmax boot_max (pa_cons (pe_fld (pv 0) rfl) pa_nil)))
    (pss_cons (ps_for PassesOwn.never rfl (pi_enum rfl me (pa_cons (pe_fld (pv 0) rfl) pa_nil)) (pg_tup rfl (pgs_cons (pg_name (i := 2) scBtTop.nd rfl (Or.inl rfl)) (pgs_cons (pg_name (i := 3) scBtTop.nd rfl (Or.inl rfl)) pgs_nil)))
      (pss_cons (ps_set (i := 4) scBtTop.nd rfl (Or.inl rfl) (pe_meth (pv 0) T.cl m1 G1 hr1 b1 .nil pass0 (pa_cons (pv 2) pa_nil)))
      (pss_one (ps_if (pt_val (pe_call G2 hr rfl m2 k2 b2 .nil pass0 (pa_cons (pv 4) (pa_cons (pv 3) pa_nil)))) (pss_one (ps_set (i := 1) scBtTop.nd rfl (Or.inl rfl) (pe_callB (call_max2 rfl) rfl mmax boot_max (pa_cons (pv 1) (pa_cons (pe_call G3 hr rfl m3 k3 b3 .nil pass0 (pa_cons (pv 4) pa_nil)) pa_nil))))) pss_nil))))
    (pss_one (ps_ret (pv 1)))), ?_⟩
  have TB' := TB
  obtain ⟨dx, x, y, g, sx, hp, hX, hY, hG, hS⟩ := TB
  have no := fun {m : Str} => bt_no x y g sx L.U (m := m)
  refine ⟨_, rfl, p, C, dx, _, _, rfl, hp, T.cl, T.ny, bt_y _ _ _ _ _, y, seg L.Y 0 (L.n + 1), rfl, by rw [← vI_map]; exact hY, by rw [BM.seg_length]; omega, fun m hm1 hm2 => ?_⟩
  refine ⟨_, rfl, p, C, dx, _, _, rfl, hp, T.cl, T.ng, bt_g _ _ _ _ _, g, _, rfl, hG, for_enum (xs := vI L.h L.n) (fun j σ H' => Same H H' ∧ ∃ (m : Int) (v2 v3 v4 : Option V), σ = [some (.ref p), some (.int m), v2, v3, v4] ∧ ∀ v : Int, m ≤ v ↔ (∀ i, i ≤ L.n → L.Y i ≤ v) ∧ ∀ i, i < j → L.has i → L.crest i v)
    ⟨Same.refl H, m, none, none, none, rfl, BM.top_start hm1 hm2⟩ (fun i σ H' _ ⟨s, _⟩ => s.seq hG) ?_ ?_⟩
  · rintro i z σ H' t hz ⟨s1, m, v2, v3, v4, rfl, hm⟩ ht
    obtain ⟨hi, rfl⟩ := vI_some hz
    have s2 : Same H (upd H' t (.tup [.int (i : Nat), .int (L.h i)])) := s1.trans (same_new ht _)
    have hp2 := s2 _ _ hp
    refine ⟨t, _, rfl, seqT, rfl, _, _, rfl, _, _, rfl, rfl, ?_⟩
    refine ⟨_, rfl, p, dx, _, rfl, hp2, no (by decide +kernel) (by decide +kernel) (by decide +kernel) (by decide +kernel) (by decide +kernel), _, rfl, p, L, i, rfl, Z, TB'.same s2, hi, fun u H3 s3 hu => ?_⟩
    have s4 := s2.trans s3
    refine ⟨_, rfl, _, rfl, u, _, _, _, _, _, _, rfl, cubB Z hi, hu, fun b hb => ⟨_, rfl, ite2 (fun c => ?_) (fun c => ?_)⟩⟩
    · have hh : L.has i := hb.mp c
      refine ⟨_, rfl, _, rfl, u, _, _, _, _, _, L.h i, rfl, cubB Z hi, L.scp i hi, hh, hu, fun r hr => ⟨_, _, rfl, s4, _, _, _, _, rfl, ?_⟩⟩
      exact BM.top_more hm hr hh
    · exact ⟨s4, m, _, _, _, rfl, BM.top_less hm fun e => c (hb.mpr e)⟩
  · rintro σ H' ⟨s1, m, v2, v3, v4, rfl, hm⟩
    rw [vI_len] at hm
    refine ⟨_, rfl, ?_⟩
    have := k H' s1
    rw [BM.top_by hm] at this
    exact this
theorem scBtTurn : FnScope ["self", "bent", "sixth", "i"] ["self"] (defScope sBtTurn) := ⟨rfl, rfl, rfl, by decide +kernel, rfl, by decide +kernel, by decide +kernel⟩
theorem ok_btTurn {f C : Addr} {fd : FuncData} (F : Fun K "turns" "Batten.turns" sBtTurn f fd) (T : BtC K C) (mr : mg "range" = none) (ml : mg "len" = none) : FnOk P w K mg base CX0 1 f fd ["self"] (spBtTurn K C) := by
  refine F.ok scBtTurn (fun vs H Q E h => ?_) (fun cdv A outer s H vs Q E hr h => ?_)
  · obtain ⟨p, L, rfl, _⟩ := h; rfl
  obtain ⟨p, L, rfl, Z, ⟨dx, x, y, g, sx, hp, hX, hY, hG, hS⟩, k⟩ := h
  refine ⟨_, pss_cons (ps_set (i := 1) scBtTurn.nd rfl (Or.inr rfl)
      (pe_lc (own := [("sixth", 2)]) rfl scBtTurn.nd (pi_list (pe_fld (pv 0) rfl)) (blkOk_by (by show blkC ["self", "bent", "sixth", "i"] (defScope sBtTurn) _ _ = true; decide +kernel))
        (fun _ _ _ _ _ => by exact pg_name (i := 2) scBtTurn.nd rfl (Or.inl rfl))
        (fun _ _ _ _ _ => by exact pts_one (pt_cmpR op_ne (pv 2) pe_int (nomark _)))
        (fun _ _ _ _ _ => by exact pv 2)))
    (pss_one (ps_ret (pe_callB call_len_seq rfl ml PySem.boot_len (pa_cons
      (pe_lc (own := [("i", 3)]) rfl scBtTurn.nd (pi_range2 rfl mr (pa_cons pe_int (pa_cons (pe_callB call_len_seq rfl ml PySem.boot_len (pa_cons (pv 1) pa_nil)) pa_nil))) (blkOk_by (by show blkC ["self", "bent", "sixth", "i"] (defScope sBtTurn) _ _ = true; decide +kernel))
        (fun _ _ _ _ _ => by exact pg_name (i := 3) scBtTurn.nd rfl (Or.inl rfl))
        (fun _ _ _ _ _ => by exact pts_one (pt_cmpR op_ne (pe_cmpR op_gt (pe_ix (r := rIxL K) ix_list (pv 1) (pe_op op_sub (pv 3) pe_int) (fun _ _ => rfl)) pe_int (nomark _)) (pe_cmpR op_gt (pe_ix (r := rIxL K) ix_list (pv 1) (pv 3) (fun _ _ => rfl)) pe_int (nomark _)) (nomark _)))
        (fun _ _ _ _ _ => by exact pv 3)) pa_nil)))), ?_⟩
  have nn := Z.n
  refine ⟨_, rfl, p, C, dx, _, _, rfl, hp, T.cl, T.ns, bt_s _ _ _ _ _, sx, rfl, ⟨_, hS⟩, fun D hD => lc_list (xs := vI L.s (L.n + 1)) (fun i H' => Same H H' ∧ H' D = some (.lst ((bent L.s i).map V.int))) ⟨same_new hD _, upd_same⟩ (fun i H' _ ⟨s, _⟩ => s.seq hS) ?_ ?_⟩
  · rintro i z H' hz ⟨s1, hD1⟩
    obtain ⟨hi, rfl⟩ := vI_some hz
    refine ⟨rfl, _, rfl, rfl, _, rfl, ite2 (fun c => ?_) (fun c => ?_)⟩
    · have c' := neV.mp c
      have hl := BM.bent_len L.s i
      refine ⟨_, rfl, _, hD1, by rw [List.length_map]; exact small1000 (by omega), same_own s1 hD, ?_⟩
      rw [upd_same, BM.bent_more c', List.map_append]
      rfl
    · have c' : L.s i = 0 := Classical.byContradiction fun e => c (neV.mpr e)
      refine ⟨s1, ?_⟩
      rw [BM.bent_less c']
      exact hD1
  · rintro H1 ⟨s1, h1⟩
    rw [vI_len] at h1
    have hl := BM.bent_len L.s (L.n + 1)
    generalize hb : bent L.s (L.n + 1) = b at *
    refine ⟨_, rfl, D, _, rfl, .inl (SqL.of h1), 1, _, rfl, ⟨by decide, by decide, by omega, by rw [List.length_map]; omega⟩, fun D2 hD2 => lc_range (lo := 1) (fun i H' => Same H1 H' ∧ ∃ acc, H' D2 = some (.lst acc) ∧ acc.length = chg b i ∧ chg b i ≤ i) ⟨same_new hD2 _, _, upd_same, rfl, Nat.le_refl _⟩ ?_ ?_⟩
    · rintro i H' hi ⟨s2, acc, h2, e2, e3⟩
      rw [List.length_map] at hi
      have h4 := s2 _ _ h1
      refine ⟨rfl, _, rfl, _, rfl, _, _, rfl, rfl, D, _, _, _, rfl, rfl, SqL.of h4, at_map i (by omega) (by omega), _, _, rfl, rfl, _, rfl, _, rfl, D, _, _, _, rfl, rfl, SqL.of h4, at_map (i + 1) (by omega) (by omega), _, _, rfl, rfl, rfl, _, rfl, ite2 (fun c => ?_) (fun c => ?_)⟩
      · have c' := difV.mp c
        have e4 : chg b (i + 1) = chg b i + 1 := by
          show chg b i + (if dif (b.getD i 0) (b.getD (i + 1) 0) = true then 1 else 0) = _
          rw [if_pos c']
        refine ⟨_, rfl, _, h2, by rw [e2]; exact small1000 (by omega), same_own s2 hD2, _, upd_same, ?_, by omega⟩
        rw [List.length_append, e2, e4]; rfl
      · have e4 : chg b (i + 1) = chg b i := by
          show chg b i + (if dif (b.getD i 0) (b.getD (i + 1) 0) = true then 1 else 0) = _
          rw [if_neg fun e => c (difV.mpr e)]; rfl
        exact ⟨s2, acc, h2, by omega, by omega⟩
    · rintro H' ⟨s2, acc, h2, e2, e3⟩
      rw [List.length_map] at e2
      refine ⟨D2, _, rfl, .inl (SqL.of h2), ?_⟩
      have := k H' (s1.trans s2)
      rw [show (((b.length : Nat) : Int) - 1).toNat = b.length - 1 by omega] at e2
      rw [e2]
      exact this
end
end PB

set_option Elab.async false
set_option linter.all false
set_option maxRecDepth 100000
set_option maxHeartbeats 4000000
namespace PB
open PySem PySem.Spec PyProof.Rows L2
open BM (Line Small B seg prodL Good linesI lineX lineY lineN lineOf tableOf)
/-! ### Desk -/
abbrev sDkInit : Stmt := inClass (top 42) 0
abbrev sDkRef : Stmt := inClass (top 42) 1
abbrev sDkBat : Stmt := inClass (top 42) 2
abbrev sDkMake : Stmt := inClass (top 42) 3
abbrev sDkAt : Stmt := inClass (top 42) 4
abbrev sDkNear : Stmt := inClass (top 42) 5
abbrev sDkPiece : Stmt := inClass (top 42) 6
def dkF (v : V) : List (Str × V) := putF "table" v []
theorem dk_t (v : V) : (dkF v).lookup ("table" : Str) = some v := by unfold dkF; rw [lookup_putF, if_pos rfl]
theorem dk_no (v : V) {m : Str} (h : ¬ m = "table") : (dkF v).lookup m = none := by unfold dkF; rw [lookup_putF, if_neg h]; rfl
theorem dk_put (v u : V) : putF "table" u (dkF v) = dkF u := putF_putF _ _ _ _
structure DkC (K : PySem.W.Frag) (C : Addr) : Prop where
  cl : Cls K C
  nT : NoAttr K C "table"
/-- a table stands at p, its rows where N holds -/
def TbN (K : PySem.W.Frag) (C : Addr) (N : Addr → Prop) (H : Hp) (p : Addr) (xs zs ys : List Int) : Prop :=
  ∃ dx a b c, H p = some (.ins C dx (tbF a b c)) ∧ (SqL K H a (xs.map V.int) ∧ SqL K H b (zs.map V.int) ∧ SqL K H c (ys.map V.int)) ∧ N a ∧ N b ∧ N c
theorem TbN.tb {K : PySem.W.Frag} {C : Addr} {N : Addr → Prop} {H : Hp} {p : Addr} {xs zs ys : List Int} (t : TbN K C N H p xs zs ys) : TbAt K C H p xs zs ys := by
  obtain ⟨dx, a, b, c, h, ⟨h1, h2, h3⟩, _⟩ := t
  exact ⟨⟨dx, a, b, c, h, h1, h2, h3⟩⟩
theorem TbN.same {K : PySem.W.Frag} {C : Addr} {N : Addr → Prop} {H H' : Hp} {p : Addr} {xs zs ys : List Int} (t : TbN K C N H p xs zs ys) (s : Same H H') : TbN K C N H' p xs zs ys := by
  obtain ⟨dx, a, b, c, h, ⟨h1, h2, h3⟩, hn⟩ := t
  exact ⟨dx, a, b, c, s _ _ h, ⟨s.seq h1, s.seq h2, s.seq h3⟩, hn⟩
theorem TbN.but {K : PySem.W.Frag} {C C' : Addr} {N : Addr → Prop} {H H' : Hp} {p d dx : Addr} {fs : List (Str × V)} {xs zs ys : List Int} (t : TbN K C N H p xs zs ys) (e : But d H H') (hd : H d = some (.ins C' dx fs)) (hne : C ≠ C') : TbN K C N H' p xs zs ys := by
  obtain ⟨dy, a, b, c, h, ⟨h1, h2, h3⟩, hn⟩ := t
  exact ⟨dy, a, b, c, e _ _ h (ne_of h hd (by intro q; injection q with q; exact hne q)), ⟨e.seq hd h1, e.seq hd h2, e.seq hd h3⟩, hn⟩
theorem But.seqN {K : PySem.W.Frag} {p : Addr} {H H' : Hp} {a : Addr} {xs : List V} (e : But p H H') (hne : a ≠ p) (h : SqL K H a xs) : SqL K H' a xs := by
  rcases h with (h | ⟨o, h⟩) | h
  · exact .inl (.inl (e _ _ h hne))
  · exact .inl (.inr ⟨o, e _ _ h hne⟩)
  · exact .inr h
/-- what the desk's table is -/
def TabIs (K : PySem.W.Frag) (CT : Addr) (N : Addr → Prop) (H : Hp) (v : V) (s : LoftBattenSeed.State) : Prop :=
  (s = none ∧ v = .non) ∨ ∃ t xs zs ys, v = .ref t ∧ TbN K CT N H t xs zs ys ∧ Good xs zs ys ∧ s = some (tableOf xs zs ys)
def DkAt (K : PySem.W.Frag) (C CT : Addr) (N : Addr → Prop) (H : Hp) (d : Addr) (s : LoftBattenSeed.State) : Prop := ∃ dx v, H d = some (.ins C dx (dkF v)) ∧ TabIs K CT N H v s
theorem TabIs.same {K : PySem.W.Frag} {CT : Addr} {N : Addr → Prop} {H H' : Hp} {v : V} {s : LoftBattenSeed.State} (t : TabIs K CT N H v s) (e : Same H H') : TabIs K CT N H' v s := by
  rcases t with t | ⟨t, xs, zs, ys, h1, h2, h3⟩
  · exact .inl t
  · exact .inr ⟨t, xs, zs, ys, h1, h2.same e, h3⟩
theorem DkAt.same {K : PySem.W.Frag} {C CT : Addr} {N : Addr → Prop} {H H' : Hp} {d : Addr} {s : LoftBattenSeed.State} (t : DkAt K C CT N H d s) (e : Same H H') : DkAt K C CT N H' d s := by
  obtain ⟨dx, v, h, t⟩ := t
  exact ⟨dx, v, e _ _ h, t.same e⟩
/-- a list of one's own that is not the table's is changed -/
theorem DkAt.list {K : PySem.W.Frag} {C CT : Addr} {H H' : Hp} {d t : Addr} {xs : List V} {s : LoftBattenSeed.State} (h : DkAt K C CT (fun a => a ≠ t) H d s) (e : But t H H') (ht : H t = some (.lst xs)) : DkAt K C CT (fun a => a ≠ t) H' d s := by
  obtain ⟨dx, v, hd, tb⟩ := h
  refine ⟨dx, v, e _ _ hd (ne_of hd ht (by intro q; cases q)), ?_⟩
  rcases tb with tb | ⟨u, xs, zs, ys, e1, ⟨dy, a, b, c, hu, ⟨h1, h2, h3⟩, n1, n2, n3⟩, e3⟩
  · exact .inl tb
  · exact .inr ⟨u, xs, zs, ys, e1, ⟨dy, a, b, c, e _ _ hu (ne_of hu ht (by intro q; cases q)), ⟨e.seqN n1 h1, e.seqN n2 h2, e.seqN n3 h3⟩, n1, n2, n3⟩, e3⟩
def refI (s : LoftBattenSeed.State) (way k : Int) (ok : Bool) : Int := match s with
  | none => -5
  | some T => if ¬ (way = 0 ∨ way = 1) ∨ ok = false then -1 else if 0 ≤ k ∧ k < T.lines way.toNat then 0 else -4
theorem refI_some {T : Loft.Table} {way k : Int} {ok : Bool} : refI (some T) way k ok = if ¬ (way = 0 ∨ way = 1) ∨ ok = false then -1 else if 0 ≤ k ∧ k < T.lines way.toNat then 0 else -4 := rfl
def spDkInit (C : Addr) : Sp := fun vs H Q _ => ∃ p dx, vs = [.ref p] ∧ H p = some (.ins C dx []) ∧ ∀ H', H' p = some (.ins C dx (dkF .non)) → But p H H' → Q .non H'
def spDkRef (K : PySem.W.Frag) (C CT : Addr) : Sp := fun vs H Q _ => ∃ (N : Addr → Prop) (d : Addr) (s : LoftBattenSeed.State) (way k : Int) (ok : Bool), vs = [.ref d, .int way, .int k, .bl ok] ∧ DkAt K C CT N H d s ∧ ∀ H', Same H H' → Q (.int (refI s way k ok)) H'
def spDkBat (K : PySem.W.Frag) (C CT CB : Addr) : Sp := fun vs H Q _ => ∃ (d dx t : Addr) (xs zs ys : List Int) (G : Good xs zs ys) (way k : Int), vs = [.ref d, .int way, .int k] ∧ H d = some (.ins C dx (dkF (.ref t))) ∧ TbAt K CT H t xs zs ys ∧ (way = 0 ∨ way = 1) ∧ 0 ≤ k ∧ k < linesI xs zs way ∧
  ∀ p H', Same H H' → BtAt K CB H' p (lineOf G way.toNat k.toNat) → Q (.ref p) H'
def ansV (l : List Int) : HO := .lst (l.map V.int)
def spDkMake (K : PySem.W.Frag) (C CT : Addr) : Sp := fun vs H Q _ => ∃ (N : Addr → Prop) (d a b c : Addr) (s : LoftBattenSeed.State) (xs zs ys : List Int), vs = [.ref d, .ref a, .ref b, .ref c] ∧ (N a ∧ N b ∧ N c) ∧ DkAt K C CT N H d s ∧ SqL K H a (xs.map V.int) ∧ SqL K H b (zs.map V.int) ∧ SqL K H c (ys.map V.int) ∧ xs.length ≤ 1048576 ∧ zs.length ≤ 1048576 ∧
  ∀ r H', H r = none → H' r = some (ansV (LoftBattenSeed.step s (.make xs zs ys)).2) → DkAt K C CT N H' d (LoftBattenSeed.step s (.make xs zs ys)).1 → But d H H' → Q (.ref r) H'
def spDkAt (K : PySem.W.Frag) (C CT : Addr) : Sp := fun vs H Q _ => ∃ (N : Addr → Prop) (d : Addr) (s : LoftBattenSeed.State) (way k p q what : Int), vs = [.ref d, .int way, .int k, .int p, .int q, .int what] ∧ DkAt K C CT N H d s ∧
  ∀ r H', H r = none → Same H H' → H' r = some (ansV (LoftBattenSeed.step s (.at_ way k p q what)).2) → Q (.ref r) H'
def spDkNear (K : PySem.W.Frag) (C CT : Addr) : Sp := fun vs H Q _ => ∃ (N : Addr → Prop) (d : Addr) (s : LoftBattenSeed.State) (way k x : Int), vs = [.ref d, .int way, .int k, .int x] ∧ DkAt K C CT N H d s ∧
  ∀ r H', H r = none → Same H H' → H' r = some (ansV (LoftBattenSeed.step s (.near way k x)).2) → Q (.ref r) H'
def spDkPiece (K : PySem.W.Frag) (C CT : Addr) : Sp := fun vs H Q _ => ∃ (N : Addr → Prop) (d : Addr) (s : LoftBattenSeed.State) (way k i : Int), vs = [.ref d, .int way, .int k, .int i] ∧ DkAt K C CT N H d s ∧
  ∀ r H', H r = none → Same H H' → H' r = some (ansV (LoftBattenSeed.step s (.piece way k i)).2) → Q (.ref r) H'
theorem in2 (way : Int) : (!inV (.int way) [.int 0, .int 1]) = true ↔ ¬ (way = 0 ∨ way = 1) := by
  unfold inV
  simp [eqV]
  omega
section
variable {P : Program} {w : World} {K : PySem.W.Frag} {mg : Str → Option Value} {base : Heap}
theorem scDkInit : FnScope ["self"] ["self"] (defScope sDkInit) := ⟨rfl, rfl, rfl, by decide +kernel, rfl, by decide +kernel, by decide +kernel⟩
theorem ok_dkInit {f C : Addr} {fd : FuncData} (F : Fun K "__init__" "Desk.__init__" sDkInit f fd) (T : DkC K C) : FnOk P w K mg base CX0 1 f fd ["self"] (spDkInit C) := by
  refine F.ok scDkInit (fun vs H Q E h => ?_) (fun cdv A outer s H vs Q E hr h => ?_)
  · obtain ⟨p, dx, rfl, _⟩ := h; rfl
  obtain ⟨p, dx, rfl, hp, k⟩ := h
  refine ⟨_, pss_one (ps_fld (pv 0) pe_non rfl), ?_⟩
  exact ⟨_, rfl, p, C, dx, _, rfl, hp, T.cl, T.nT, (by show 0 < 1000; decide), k _ upd_same But.upd⟩
theorem scDkRef : FnScope ["self", "way", "k", "others_right"] ["self", "way", "k", "others_right"] (defScope sDkRef) := ⟨rfl, rfl, rfl, by decide +kernel, rfl, by decide +kernel, by decide +kernel⟩
theorem ok_dkRef {f g C CT : Addr} {fd gd : FuncData} (F : Fun K "refusal" "Desk.refusal" sDkRef f fd) (T : DkC K C) (TT : TbC K CT) (G : Fun K "has_line" "Table.has_line" sTbHas g gd) (bG : Binds K gd ["self", "way", "k"] []) (mG : Meth K CT "has_line" g) (ml : mg "len" = none)
    (gB : Glo mg "BY_LEVEL" 0) (gC : Glo mg "BY_STATION" 1) (g5 : Glo mg "NO_TABLE" (-5)) (g1 : Glo mg "WRONG_NUMBER" (-1)) (g4 : Glo mg "NO_SUCH_PLACE" (-4)) : FnOk P w K mg base CX0 2 f fd ["self", "way", "k", "others_right"] (spDkRef K C CT) := by
  have GG : FnOk P w K mg base CX0 1 g gd ["self", "way", "k"] (spTbHas K CT) := ok_tbHas G TT ml gB
  refine F.ok scDkRef (fun vs H Q E h => ?_) (fun cdv A outer s H vs Q E hr h => ?_)
  · obtain ⟨N, d, s, way, k, ok, rfl, _⟩ := h; rfl
  obtain ⟨N, d, st, way, k, ok, rfl, ⟨dx, v, hd, tb⟩, q⟩ := h
  refine ⟨_, pss_cons (ps_if (pt_cmpR op_isN (pe_fld (pv 0) rfl) pe_non (nomark _)) (pss_one (ps_ret (pe_glo g5))) pss_nil)
    (pss_cons (ps_if (PW.pt (pw_or (pt_cmpR op_notIn_seq (pv 1) (pe_tup (pa_cons (pe_glo gB) (pa_cons (pe_glo gC) pa_nil))) (by with_unfolding_all rfl)) (pw_or1 (pt_not (pt_val (pv 3)))))) (pss_one (ps_ret (pe_glo g1))) pss_nil)
    (pss_cons (ps_if (pt_not (pt_val (pe_meth (pe_fld (pv 0) rfl) TT.cl mG GG hr bG .nil pass0 (pa_cons (pv 1) (pa_cons (pv 2) pa_nil))))) (pss_one (ps_ret (pe_glo g4))) pss_nil)
    (pss_one (ps_ret pe_int)))), ?_⟩
  rcases tb with ⟨rfl, rfl⟩ | ⟨t, xs, zs, ys, rfl, tn, G', rfl⟩
  · refine ⟨_, rfl, d, C, dx, _, _, rfl, hd, T.cl, T.nT, dk_t _, rfl, _, rfl, iteT ?_⟩
    exact q H (Same.refl H)
  refine ⟨_, rfl, d, C, dx, _, _, rfl, hd, T.cl, T.nT, dk_t _, rfl, _, rfl, iteF ?_⟩
  refine ⟨_, rfl, by show 2 ≤ sizeLine; decide, fun u hu => ⟨u, _, rfl, .inr seqT, rfl, rfl, _, rfl, ite2 (fun z => iteT ?_) (fun z => ?_)⟩⟩
  · have z' : ¬ (way = 0 ∨ way = 1) := (in2 way).mp z
    have := q _ (same_new hu (.tup [.int 0, .int 1]))
    rw [refI_some, if_pos (.inl z')] at this
    exact this
  have z' : way = 0 ∨ way = 1 := Classical.byContradiction fun e => z ((in2 way).mpr e)
  have s1 : Same H (upd H u (.tup [.int 0, .int 1])) := same_new hu _
  refine ⟨_, rfl, _, rfl, ?_⟩
  cases ok with
  | false =>
    refine iteT ?_
    have := q _ s1
    rw [refI_some, if_pos (.inr rfl)] at this
    exact this
  | true =>
  refine iteF ?_
  have hd1 := s1 _ _ hd
  have ta1 := tn.tb.same s1
  have ta2 := ta1
  obtain ⟨ty, a, b, c, ht, _⟩ := ta1
  refine ⟨_, rfl, d, C, dx, _, _, rfl, hd1, T.cl, T.nT, dk_t _, t, ty, _, rfl, ht, tb_no _ _ _ (by decide +kernel) (by decide +kernel) (by decide +kernel), _, rfl, _, rfl, t, xs, zs, ys, way, k, rfl, ta2, _, rfl, ?_⟩
  have fin := q _ s1
  rw [refI_some, if_neg (by rintro (e | e); exact e z'; cases e), BM.lines_eq z'] at fin
  refine ite2 (fun y => ?_) (fun y => ?_)
  · rw [if_neg] at fin
    · exact fin
    · rintro ⟨e1, e2⟩
      rw [decide_eq_true e1, decide_eq_true e2] at y
      cases y
  · rw [if_pos] at fin
    · exact fin
    · have y' : (decide (0 ≤ k) && decide (k < linesI xs zs way)) = true := by
        cases e : (decide (0 ≤ k) && decide (k < linesI xs zs way)) with
        | true => rfl
        | false => exact absurd (by rw [e]; rfl) y
      rw [Bool.and_eq_true, decide_eq_true_eq, decide_eq_true_eq] at y'
      exact y'
theorem scDkBat : FnScope ["self", "way", "k"] ["self", "way", "k"] (defScope sDkBat) := ⟨rfl, rfl, rfl, by decide +kernel, rfl, by decide +kernel, by decide +kernel⟩
theorem line_len (xs zs ys : List Int) (G : Good xs zs ys) (way k : Nat) : (lineOf G way k).n + 1 = lineN xs zs way := by
  show lineN xs zs way - 1 + 1 = _
  have := G.xl; have := G.zl
  unfold lineN; split <;> omega
theorem ok_dkBat {f g1 g2 g3 C CT CB : Addr} {fd d1 d2 d3 : FuncData} (F : Fun K "batten" "Desk.batten" sDkBat f fd) (T : DkC K C) (TT : TbC K CT) (TB : BtC K CB)
    (G1 : Fun K "nail_places" "Table.nail_places" sTbPl g1 d1) (b1 : Binds K d1 ["self", "way"] []) (m1 : Meth K CT "nail_places" g1)
    (G2 : Fun K "nail_breadths" "Table.nail_breadths" sTbBr g2 d2) (b2 : Binds K d2 ["self", "way", "k"] []) (m2 : Meth K CT "nail_breadths" g2)
    (M : Mk K CB g3) (G3 : FnOk P w K mg base CX0 3 g3 d3 ["self", "xs", "ys"] (spBtInit K CB)) (b3 : Binds K d3 ["self", "xs", "ys"] []) (mB : mg "Batten" = some (.ref CB)) (ml : mg "len" = none) (gB : Glo mg "BY_LEVEL" 0) :
    FnOk P w K mg base CX0 5 f fd ["self", "way", "k"] (spDkBat K C CT CB) := by
  have H1 : FnOk P w K mg base CX0 1 g1 d1 ["self", "way"] (spTbPl K CT) := ok_tbPl G1 TT gB
  have H2 : FnOk P w K mg base CX0 1 g2 d2 ["self", "way", "k"] (spTbBr K CT) := ok_tbBr G2 TT ml gB
  refine F.ok scDkBat (fun vs H Q E h => ?_) (fun cdv A outer s H vs Q E hr h => ?_)
  · obtain ⟨d, dx, t, xs, zs, ys, G, way, k, rfl, _⟩ := h; rfl
  obtain ⟨d, dx, t, xs, zs, ys, G, way, k, rfl, hd, ta, hw, k0, k1, q⟩ := h
  have hr1 : Room 1 _ := hr.mono (by decide)
  refine ⟨_, pss_one (ps_ret (pe_make M G3 hr rfl mB b3 .nil pass0 (pa_cons (pe_meth (pe_fld (pv 0) rfl) TT.cl m1 H1 hr1 b1 .nil pass0 (pa_cons (pv 1) pa_nil)) (pa_cons (pe_meth (pe_fld (pv 0) rfl) TT.cl m2 H2 hr1 b2 .nil pass0 (pa_cons (pv 1) (pa_cons (pv 2) pa_nil))) pa_nil)))), ?_⟩
  have ta' := ta
  obtain ⟨ty, a, b, c, ht, _⟩ := ta
  have no := fun {m : Str} => tb_no a b c (m := m)
  refine ⟨_, rfl, d, C, dx, _, _, rfl, hd, T.cl, T.nT, dk_t _, t, ty, _, rfl, ht, no (by decide +kernel) (by decide +kernel) (by decide +kernel), _, rfl, t, xs, zs, ys, way, rfl, ta', hw, fun x hx => ?_⟩
  refine ⟨_, rfl, d, C, dx, _, _, rfl, hd, T.cl, T.nT, dk_t _, t, ty, _, rfl, ht, no (by decide +kernel) (by decide +kernel) (by decide +kernel), _, rfl, _, rfl, t, xs, zs, ys, way, k, rfl, ta', G, hw, k0, k1, fun y H3 s3 hy => ?_⟩
  intro p dp hp hdp hne
  have e1 := line_len xs zs ys G way.toNat k.toNat
  have s4 : Same H3 (upd (upd H3 dp (.own p)) p (.ins CB dp [])) := fun b o e => by
    rw [upd_ne (ne_of_none e hp), upd_ne (ne_of_none e hdp)]; exact e
  have hw2 : way.toNat < 2 := by omega
  have hk2 : k.toNat < (tableOf xs zs ys).lines way.toNat := by rw [BM.lines_eq hw]; omega
  refine ⟨p, dp, x, y, lineOf G way.toNat k.toNat, BM.lineSmall G hw2 hk2, rfl, rfl, upd_same, ?_, ?_, fun H5 hB u5 => ⟨rfl, ?_⟩⟩
  · rw [e1]; exact (s3.trans s4).seq hx
  · rw [e1]; exact s4.seq (SqL.of hy)
  · exact q p H5 (fun b o e => u5 b o (s4 b o (s3 b o e)) (ne_of_none (s3 b o e) hp)) hB
end
end PB

set_option Elab.async false
set_option linter.all false
set_option maxRecDepth 100000
set_option maxHeartbeats 4000000
namespace PB
open PySem PySem.Spec PyProof.Rows L2
open BM (Line Small B seg prodL Good linesI lineX lineY lineN lineOf tableOf lowI nearI)
theorem ver_two (xs zs ys : List Int) : ∃ u v, BM.verdictI xs zs ys = [u, v] := by
  unfold BM.verdictI
  split
  · exact ⟨_, _, rfl⟩
  split
  · exact ⟨_, _, rfl⟩
  split
  · exact ⟨_, _, rfl⟩
  split
  · exact ⟨_, _, rfl⟩
  split
  · exact ⟨_, _, rfl⟩
  split
  · exact ⟨_, _, rfl⟩
  · exact ⟨_, _, rfl⟩
theorem eqv2 (u v : Int) : PyData.eqv (.list [.int u, .int v]) (.list [.int 0, .int 0]) = decide ([u, v] = [0, 0]) := by
  show (u == 0 && (v == 0 && true)) = _
  by_cases h1 : u = 0 <;> by_cases h2 : v = 0 <;> simp [h1, h2]
section
variable {P : Program} {w : World} {K : PySem.W.Frag} {mg : Str → Option Value} {base : Heap}
theorem scDkMake : FnScope ["self", "places", "heights", "breadths", "found"] ["self", "places", "heights", "breadths"] (defScope sDkMake) := ⟨rfl, rfl, rfl, by decide +kernel, rfl, by decide +kernel, by decide +kernel⟩
theorem ok_dkMake {f g1 g2 C CT : Addr} {fd d1 d2 : FuncData} (F : Fun K "make" "Desk.make" sDkMake f fd) (T : DkC K C) (TT : TbC K CT) (hne : CT ≠ C)
    (G1 : FnOk P w K mg base CX0 2 g1 d1 ["places", "heights", "breadths"] (spVer K)) (k1 : PySem.W.keepIn K (.ref g1) = true) (b1 : Binds K d1 ["places", "heights", "breadths"] []) (m1 : mg "verdict" = some (.ref g1))
    (M : Mk K CT g2) (G2 : Fun K "__init__" "Table.__init__" sTbInit g2 d2) (b2 : Binds K d2 ["self", "places", "heights", "breadths"] []) (mT : mg "Table" = some (.ref CT)) :
    FnOk P w K mg base CX0 3 f fd ["self", "places", "heights", "breadths"] (spDkMake K C CT) := by
  have H2 : FnOk P w K mg base CX0 1 g2 d2 ["self", "places", "heights", "breadths"] (spTbInit CT) := ok_tbInit G2 TT
  refine F.ok scDkMake (fun vs H Q E h => ?_) (fun cdv A outer s H vs Q E hr h => ?_)
  · obtain ⟨N, d, a, b, c, st, xs, zs, ys, rfl, _⟩ := h; rfl
  obtain ⟨N, d, a, b, c, st, xs, zs, ys, rfl, nabc, ⟨dx, v, hd, tb⟩, hX, hZ, hY, lx, lz, q⟩ := h
  have hr2 : Room 2 _ := hr
  refine ⟨_, pss_cons (ps_set (i := 4) scDkMake.nd rfl (Or.inl rfl) (pe_call G1 hr rfl m1 k1 b1 .nil pass0 (pa_cons (pv 1) (pa_cons (pv 2) (pa_cons (pv 3) pa_nil)))))
    (pss_cons (ps_if (pt_cmpR (op_eqD hr.units) (pv 4) (pe_lst (pa_cons pe_int (pa_cons pe_int pa_nil))) (nomark _)) (pss_one (ps_fld (pv 0) (pe_make M H2 (hr.mono (by decide)) rfl mT b2 .nil pass0 (pa_cons (pv 1) (pa_cons (pv 2) (pa_cons (pv 3) pa_nil)))) rfl)) pss_nil)
    (pss_one (ps_ret (pe_op op_cat (pe_lst (pa_cons pe_int pa_nil)) (pv 4))))), ?_⟩
  rw [BM.step_make] at q
  obtain ⟨u0, v0, ev⟩ := ver_two xs zs ys
  refine ⟨_, rfl, _, rfl, _, rfl, a, b, c, xs, zs, ys, rfl, hX, hZ, hY, lx, lz, fun p H1 s1 hp => ?_⟩
  rw [ev] at hp
  have hd1 := s1 _ _ hd
  refine ⟨_, rfl, by show 2 ≤ sizeLine; decide, fun l hl => ?_⟩
  have s2 : Same H1 (upd H1 l (.lst [.int 0, .int 0])) := same_new hl _
  have hp2 := s2 _ _ hp
  refine ⟨.list [.int u0, .int v0], .list [.int 0, .int 0], .lst (SqL.of hp2) (.cons (.int _) (.cons (.int _) .nil)), .lst (SqL.of upd_same) (.cons (.int _) (.cons (.int _) .nil)), rfl, rfl, _, rfl, ?_⟩
  rw [eqv2, ← ev]
  -- the answer's end
  have fin : ∀ (H3 : Hp) (v' : V), H3 p = some (.lst [.int u0, .int v0]) → H3 d = some (.ins C dx (dkF v')) → TabIs K CT N H3 v' (if BM.verdictI xs zs ys = [0, 0] then some (tableOf xs zs ys) else st) → But d H H3 →
      ∀ m, H3 m = none → ∀ r, (upd H3 m (.lst [.int 0])) r = none → Q (.ref r) (upd (upd H3 m (.lst [.int 0])) r (.lst ([.int 0] ++ [.int u0, .int v0]))) := fun H3 v' h1 h2 h3 h4 m hm r hr => by
    have s5 : Same H3 (upd (upd H3 m (.lst [.int 0])) r (.lst ([.int 0] ++ [.int u0, .int v0]))) := (same_new hm _).trans (same_new hr _)
    have hr0 : H r = none := by
      cases e : H r with
      | none => rfl
      | some o =>
        have hrd : r ≠ d := fun z => by rw [z] at hr; rw [(same_new hm (.lst [.int 0])) _ _ h2] at hr; cases hr
        rw [(same_new hm (.lst [.int 0])) _ _ (h4 _ _ e hrd)] at hr; cases hr
    refine q r _ hr0 ?_ ⟨dx, v', s5 _ _ h2, h3.same s5⟩ (h4.same s5)
    rw [upd_same, ev]; rfl
  refine ite2 (fun z => ?_) (fun z => ?_)
  · have z' : BM.verdictI xs zs ys = [0, 0] := of_decide_eq_true z
    refine ⟨_, rfl, _, rfl, _, rfl, ?_⟩
    intro x dy hx hdy hxy
    have s3 : Same (upd H1 l (.lst [.int 0, .int 0])) (upd (upd (upd H1 l (.lst [.int 0, .int 0])) dy (.own x)) x (.ins CT dy [])) := fun b o e => by
      rw [upd_ne (ne_of_none e hx), upd_ne (ne_of_none e hdy)]; exact e
    refine ⟨x, dy, a, b, c, rfl, upd_same, fun H4 h4 u4 => ⟨rfl, ?_⟩⟩
    have s14 : Same H1 H4 := fun b o e => u4 b o (s3 b o (s2 b o e)) (ne_of_none (s2 b o e) hx)
    have hd4 := s14 _ _ hd1
    refine ⟨_, rfl, d, C, dx, _, rfl, hd4, T.cl, T.nT, Nat.lt_of_le_of_lt (putF_len _ _ _) (by decide), ?_⟩
    rw [dk_put]
    have s04 := s1.trans s14
    have u5 : But d H4 (upd H4 d (.ins C dx (dkF (.ref x)))) := But.upd
    have hp5 : (upd H4 d (.ins C dx (dkF (.ref x)))) p = some (.lst [.int u0, .int v0]) := u5 _ _ (s14 _ _ hp) (ne_of hp hd1 (by intro q; cases q))
    obtain ⟨G, eT⟩ := BM.judge_ok (BM.verdict_ok.mp z').choose_spec
    have ta : TbN K CT N H4 x xs zs ys := ⟨dy, a, b, c, h4, ⟨s04.seq hX, s04.seq hZ, s04.seq hY⟩, nabc⟩
    have tb5 : TabIs K CT N (upd H4 d (.ins C dx (dkF (.ref x)))) (.ref x) (if BM.verdictI xs zs ys = [0, 0] then some (tableOf xs zs ys) else st) := by
      rw [if_pos z']
      exact .inr ⟨x, xs, zs, ys, rfl, ta.but u5 hd4 hne, G, rfl⟩
    refine ⟨by show 1 ≤ sizeLine; decide, fun m hm => ⟨_, rfl, m, p, _, [.int u0, .int v0], rfl, rfl, upd_same, ?_, by show 1 + 2 ≤ sizeLine; decide, fun r hr => ?_⟩⟩
    · rw [upd_ne (ne_of_none hp5 hm)]; exact hp5
    · exact fin _ _ hp5 upd_same tb5 (fun b o e hb => u5 b o (s04 b o e) hb) m hm r hr
  · have z' : ¬ BM.verdictI xs zs ys = [0, 0] := of_decide_eq_false (Bool.eq_false_iff.mpr z)
    have s12 := s1.trans s2
    refine ⟨by show 1 ≤ sizeLine; decide, fun m hm => ⟨_, rfl, m, p, _, [.int u0, .int v0], rfl, rfl, upd_same, ?_, by show 1 + 2 ≤ sizeLine; decide, fun r hr => ?_⟩⟩
    · rw [upd_ne (ne_of_none hp2 hm)]; exact hp2
    · refine fin _ v hp2 (s12 _ _ hd) ?_ (fun b o e hb => s12 b o e) m hm r hr
      rw [if_neg z']
      exact tb.same s12
/-! ### at, near, piece -/
abbrev rLe : R2 := rI0 fun i j => .bl (decide (i ≤ j))
theorem chain_le {σ : L2.St} {H : Hp} {Q : VK} {i : Nat} {a b c : Int} (hb : σ[i]? = some (some (.int b))) (h : Q (.bl (decide (a ≤ b) && decide (b ≤ c))) H) : tChain rLe rLe (tC (.int a)) (tVar i) (tC (.int c)) σ H Q := by
  refine ⟨_, hb, _, _, rfl, rfl, _, rfl, ?_⟩
  by_cases z : a ≤ b
  · rw [decide_eq_true z, if_pos rfl]
    rw [decide_eq_true z, Bool.true_and] at h
    exact ⟨_, _, rfl, rfl, h⟩
  · rw [decide_eq_false z, if_neg (by decide)]
    rw [decide_eq_false z, Bool.false_and] at h
    exact h
theorem at_test {σ : L2.St} {H : Hp} {Q : VK} {q what : Int} (hq : σ[4]? = some (some (.int q))) (hw : σ[5]? = some (some (.int what))) (h : Q (.bl (!BM.badAt q what)) H) :
    tAndV (tChain rLe rLe (tC (.int 1)) (tVar 4) (tC (.int 1048576))) (tChain rLe rLe (tC (.int 0)) (tVar 5) (tC (.int 2))) σ H Q := by
  refine chain_le hq ⟨_, rfl, ?_⟩
  have e : (!BM.badAt q what) = ((decide (1 ≤ q) && decide (q ≤ 1048576)) && (decide (0 ≤ what) && decide (what ≤ 2))) := by
    have := BM.badAt_iff q what
    cases e : BM.badAt q what with
    | false =>
      obtain ⟨⟨h1, h2⟩, h3, h4⟩ := this.mp e
      rw [decide_eq_true h1, decide_eq_true h2, decide_eq_true h3, decide_eq_true h4]; rfl
    | true =>
      have no : ¬ ((1 ≤ q ∧ q ≤ 1048576) ∧ 0 ≤ what ∧ what ≤ 2) := fun z => by rw [this.mpr z] at e; cases e
      symm
      rw [Bool.not_true, ← Bool.not_eq_true]
      intro z
      simp only [Bool.and_eq_true, decide_eq_true_eq] at z
      exact no z
  rw [e] at h
  cases c : (decide (1 ≤ q) && decide (q ≤ 1048576)) with
  | true =>
    rw [if_pos rfl]
    rw [c, Bool.true_and] at h
    exact chain_le hw h
  | false =>
    rw [if_neg (by decide)]
    rw [c, Bool.false_and] at h
    exact h
theorem ref_ne {st : LoftBattenSeed.State} {way k : Int} {b : Bool} {f : List Loft.Nail → List Loft.Piece → LoftBattenSeed.Answer} {CT : Addr} {N : Addr → Prop} {H : Hp} {v : V} (t : TabIs K CT N H v st) (h : refI st way k (!b) ≠ 0) : LoftBattenSeed.ofLine st b way k f = [refI st way k (!b)] := by
  rcases t with ⟨rfl, _⟩ | ⟨t, xs, zs, ys, _, _, G, rfl⟩
  · rfl
  rw [refI_some] at h ⊢
  by_cases c : ¬ (way = 0 ∨ way = 1) ∨ (!b) = false
  · rw [if_pos c]
    refine BM.ofLine_bad ?_
    rcases c with c | c
    · exact .inr c
    · exact .inl (by simpa using c)
  · rw [if_neg c] at h ⊢
    have hw : way = 0 ∨ way = 1 := Classical.byContradiction fun e => c (.inl e)
    have hb : b = false := by
      cases e : b with
      | false => rfl
      | true => exact absurd (.inr (by rw [e]; rfl)) c
    by_cases d : 0 ≤ k ∧ k < (tableOf xs zs ys).lines way.toNat
    · rw [if_pos d] at h; exact absurd rfl h
    · rw [if_neg d]
      rw [BM.lines_eq hw] at d
      exact BM.ofLine_no hb hw d
theorem ref_eq {st : LoftBattenSeed.State} {way k : Int} {b : Bool} {CT : Addr} {N : Addr → Prop} {H : Hp} {v : V} (t : TabIs K CT N H v st) (h : refI st way k (!b) = 0) :
    ∃ t xs zs ys, v = .ref t ∧ TbAt K CT H t xs zs ys ∧ Good xs zs ys ∧ st = some (tableOf xs zs ys) ∧ (way = 0 ∨ way = 1) ∧ b = false ∧ 0 ≤ k ∧ k < linesI xs zs way := by
  rcases t with ⟨rfl, _⟩ | ⟨t, xs, zs, ys, rfl, tn, G, rfl⟩
  · cases h
  rw [refI_some] at h
  by_cases c : ¬ (way = 0 ∨ way = 1) ∨ (!b) = false
  · rw [if_pos c] at h; cases h
  · rw [if_neg c] at h
    have hw : way = 0 ∨ way = 1 := Classical.byContradiction fun e => c (.inl e)
    have hb : b = false := by
      cases e : b with
      | false => rfl
      | true => exact absurd (.inr (by rw [e]; rfl)) c
    by_cases d : 0 ≤ k ∧ k < (tableOf xs zs ys).lines way.toNat
    · rw [BM.lines_eq hw] at d
      exact ⟨t, xs, zs, ys, rfl, tn.tb, G, rfl, hw, hb, d.1, d.2⟩
    · rw [if_neg d] at h; cases h
/-- what the three calls lean on -/
structure DkK (P : Program) (w : World) (K : PySem.W.Frag) (mg : Str → Option Value) (base : Heap) (C CT CB : Addr) : Prop where
  T : DkC K C
  TB : BtC K CB
  ref : ∃ g d, FnOk P w K mg base CX0 2 g d ["self", "way", "k", "others_right"] (spDkRef K C CT) ∧ Binds K d ["self", "way", "k", "others_right"] [] ∧ Meth K C "refusal" g
  bat : ∃ g d, FnOk P w K mg base CX0 5 g d ["self", "way", "k"] (spDkBat K C CT CB) ∧ Binds K d ["self", "way", "k"] [] ∧ Meth K C "batten" g
  cov : ∃ g d, FnOk P w K mg base CX0 1 g d ["self", "p", "q"] (spBtCov K CB) ∧ Binds K d ["self", "p", "q"] [] ∧ Meth K CB "covers" g
  has : ∃ g d, FnOk P w K mg base CX0 1 g d ["self", "i"] (spBtHas K CB) ∧ Binds K d ["self", "i"] [] ∧ Meth K CB "has_cubic" g
  cub : ∃ g d, FnOk P w K mg base CX0 1 g d ["self", "i"] (spBtCub K CB) ∧ Binds K d ["self", "i"] [] ∧ Meth K CB "cubic" g
  der : ∃ g d, FnOk P w K mg base CX0 2 g d ["self", "p", "q", "what"] (spBtDer K CB) ∧ Binds K d ["self", "p", "q", "what"] [] ∧ Meth K CB "derived" g
  low : ∃ g d, FnOk P w K mg base CX0 2 g d ["above", "below"] spLow ∧ Binds K d ["above", "below"] [] ∧ mg "lowest" = some (.ref g) ∧ PySem.W.keepIn K (.ref g) = true
  near : ∃ g d, FnOk P w K mg base CX0 1 g d ["above", "below"] spNear ∧ Binds K d ["above", "below"] [] ∧ mg "nearest" = some (.ref g) ∧ PySem.W.keepIn K (.ref g) = true
  g4 : Glo mg "NO_SUCH_PLACE" (-4)
  gQ : Glo mg "LARGEST_Q" 1048576
theorem intNe {a : Int} : (!decide (V.int a = V.int 0)) = true ↔ a ≠ 0 := by
  by_cases h : a = 0
  · subst h; simp
  · have : ¬ V.int a = V.int 0 := fun e => h (by injection e)
    rw [decide_eq_false this]; simp [h]
theorem scDkAt : FnScope ["self", "way", "k", "p", "q", "what", "refused", "batten", "found"] ["self", "way", "k", "p", "q", "what"] (defScope sDkAt) := ⟨rfl, rfl, rfl, by decide +kernel, rfl, by decide +kernel, by decide +kernel⟩
theorem ok_dkAt {f C CT CB : Addr} {fd : FuncData} (F : Fun K "at" "Desk.at" sDkAt f fd) (D : DkK P w K mg base C CT CB) : FnOk P w K mg base CX0 6 f fd ["self", "way", "k", "p", "q", "what"] (spDkAt K C CT) := by
  obtain ⟨T, TB, ⟨g1, d1, G1, b1, m1⟩, ⟨g2, d2, G2, b2, m2⟩, ⟨g3, d3, G3, b3, m3⟩, _, _, ⟨g6, d6, G6, b6, m6⟩, ⟨g7, d7, G7, b7, m7, kp7⟩, _, g4, gQ⟩ := D
  refine F.ok scDkAt (fun vs H Q E h => ?_) (fun cdv A outer s H vs Q E hr h => ?_)
  · obtain ⟨N, d, st, way, k, p, q, wh, rfl, _⟩ := h; rfl
  obtain ⟨N, d, st, way, k, p, q, wh, rfl, ⟨dx, v, hd, tb⟩, fin⟩ := h
  have hr1 : Room 1 _ := hr.mono (by decide)
  have hr2 : Room 2 _ := hr.mono (by decide)
  refine ⟨_, pss_cons (ps_set (i := 6) scDkAt.nd rfl (Or.inl rfl) (pe_meth (pv 0) T.cl m1 G1 hr2 b1 .nil pass0 (pa_cons (pv 1) (pa_cons (pv 2) (pa_cons (pe_and (pe_chain op_le op_le pe_int (pv 4) (pe_glo gQ)) (pe_one (pe_chain op_le op_le pe_int (pv 5) pe_int))) pa_nil)))))
    (pss_cons (ps_if (pt_cmpR op_ne (pv 6) pe_int (nomark _)) (pss_one (ps_ret (pe_lst (pa_cons (pv 6) pa_nil)))) pss_nil)
    (pss_cons (ps_set (i := 7) scDkAt.nd rfl (Or.inl rfl) (pe_meth (pv 0) T.cl m2 G2 hr b2 .nil pass0 (pa_cons (pv 1) (pa_cons (pv 2) pa_nil))))
    (pss_cons (ps_if (pt_not (pt_val (pe_meth (pv 7) TB.cl m3 G3 hr1 b3 .nil pass0 (pa_cons (pv 3) (pa_cons (pv 4) pa_nil))))) (pss_one (ps_ret (pe_lst (pa_cons (pe_glo g4) pa_nil)))) pss_nil)
    (pss_cons (ps_set (i := 8) scDkAt.nd rfl (Or.inl rfl) (pe_meth (pv 7) TB.cl m6 G6 hr2 b6 .nil pass0 (pa_cons (pv 3) (pa_cons (pv 4) (pa_cons (pv 5) pa_nil)))))
    (pss_one (ps_ret (pe_op op_cat (pe_lst (pa_cons pe_int pa_nil)) (pe_call G7 hr2 rfl m7 kp7 b7 .nil pass0 (pa_cons (pe_ix ix_tup (pv 8) pe_int (fun _ _ => rfl)) (pa_cons (pe_ix ix_tup (pv 8) pe_int (fun _ _ => rfl)) pa_nil)))))))))), ?_⟩
  refine ⟨_, rfl, d, dx, _, rfl, hd, dk_no _ (by decide +kernel), _, rfl, _, rfl, at_test rfl rfl ⟨N, d, st, way, k, !BM.badAt q wh, rfl, ⟨dx, v, hd, tb⟩, fun H1 s1 => ?_⟩⟩
  rw [BM.at_eq] at fin
  refine ⟨_, rfl, rfl, _, rfl, ite2 (fun z => ?_) (fun z => ?_)⟩
  · have z' := intNe.mp z
    rw [ref_ne tb z'] at fin
    refine ⟨_, rfl, by show 1 ≤ sizeLine; decide, fun r hr => ?_⟩
    exact fin r _ (s1.free hr) (s1.trans (same_new hr _)) upd_same
  have z' : refI st way k (!BM.badAt q wh) = 0 := Classical.byContradiction fun e => z (intNe.mpr e)
  obtain ⟨t, xs, zs, ys, rfl, ta, G, rfl, hw, hb, k0, k1⟩ := ref_eq tb z'
  rw [← BM.at_eq] at fin
  have hqw := (BM.badAt_iff q wh).mp hb
  have hd1 := s1 _ _ hd
  refine ⟨_, rfl, d, dx, _, rfl, hd1, dk_no _ (by decide +kernel), _, rfl, _, rfl, d, dx, t, xs, zs, ys, G, way, k, rfl, hd1, ta.same s1, hw, k0, k1, fun b H2 s2 hB => ?_⟩
  have Z : Small (lineOf G way.toNat k.toNat) := BM.lineSmall G (by omega) (by rw [BM.lines_eq hw]; omega)
  have hB' := hB
  obtain ⟨bx, x, y, g, sx, hb2, _⟩ := hB
  refine ⟨_, rfl, b, bx, _, rfl, hb2, bt_no _ _ _ _ _ (by decide +kernel) (by decide +kernel) (by decide +kernel) (by decide +kernel) (by decide +kernel), _, rfl, _, rfl, b, _, p, q, rfl, Z, hB', _, rfl, ite2 (fun c => ?_) (fun c => ?_)⟩
  · have c' : ¬ ((lineOf G way.toNat k.toNat).X 0 * q ≤ p ∧ p ≤ (lineOf G way.toNat k.toNat).X (lineOf G way.toNat k.toNat).n * q) := by
      rintro ⟨e1, e2⟩
      rw [decide_eq_true e1, decide_eq_true e2] at c
      cases c
    rw [BM.at_far G hb hw ⟨k0, k1⟩ c'] at fin
    refine ⟨by show 1 ≤ sizeLine; decide, fun r hr => ?_⟩
    exact fin r _ ((s1.trans s2).free hr) ((s1.trans s2).trans (same_new hr _)) upd_same
  have c' : (lineOf G way.toNat k.toNat).X 0 * q ≤ p ∧ p ≤ (lineOf G way.toNat k.toNat).X (lineOf G way.toNat k.toNat).n * q := by
    refine Classical.byContradiction fun e => c ?_
    rw [Bool.not_eq_true', Bool.and_eq_false_iff, decide_eq_false_iff_not, decide_eq_false_iff_not]
    exact Classical.not_and_iff_not_or_not.mp e
  refine ⟨_, rfl, b, bx, _, rfl, hb2, bt_no _ _ _ _ _ (by decide +kernel) (by decide +kernel) (by decide +kernel) (by decide +kernel) (by decide +kernel), _, rfl, _, rfl, _, rfl, b, _, p, q, wh, rfl, Z, hB', hqw.1.1, hqw.1.2, hqw.2.1, hqw.2.2, c'.1, c'.2, fun i t' H3 hi lo up s3 ht => ?_⟩
  rw [BM.at_ok G hb hw ⟨k0, k1⟩ hi c'.1 c'.2 lo up] at fin
  refine ⟨by show 1 ≤ sizeLine; decide, fun m hm => ?_⟩
  have ht2 : (upd H3 m (.lst [.int 0])) t' = some (.tup [.int ((lineOf G way.toNat k.toNat).dnum i p q wh), .int ((lineOf G way.toNat k.toNat).dden i q wh)]) := by rw [upd_ne (ne_of_none ht hm)]; exact ht
  refine ⟨_, rfl, t', _, _, _, rfl, rfl, SqT.of ht2, rfl, _, rfl, t', _, _, _, rfl, rfl, SqT.of ht2, rfl, _, _, rfl, Line.dden_pos _ i hi q wh (by omega), ((Z.ddB i hi q wh hqw.1).mono (by omega : 1080 ≤ 9000)).lt, fun u hu => ?_⟩
  have hmu : m ≠ u := ne_of_none upd_same hu
  refine ⟨m, u, _, _, rfl, rfl, by rw [upd_ne hmu, upd_same], upd_same, by show 1 + 2 ≤ sizeLine; decide, fun r hr => ?_⟩
  exact fin r _ (((((s1.trans s2).trans s3).trans (same_new hm _)).trans (same_new hu _)).free hr) ((((s1.trans s2).trans s3).trans (same_new hm _)).trans ((same_new hu _).trans (same_new hr _))) upd_same
end
end PB

set_option Elab.async false
set_option linter.all false
set_option maxRecDepth 100000
set_option maxHeartbeats 4000000
namespace PB
open PySem PySem.Spec PyProof.Rows L2
open BM (Line Small B seg prodL Good linesI lineX lineY lineN lineOf tableOf lowI)
theorem nearI_eq (a b : Int) : nearI a b = BM.nearI a b := rfl
section
variable {P : Program} {w : World} {K : PySem.W.Frag} {mg : Str → Option Value} {base : Heap}
theorem scDkNear : FnScope ["self", "way", "k", "x", "refused", "batten", "found"] ["self", "way", "k", "x"] (defScope sDkNear) := ⟨rfl, rfl, rfl, by decide +kernel, rfl, by decide +kernel, by decide +kernel⟩
theorem ok_dkNear {f C CT CB : Addr} {fd : FuncData} (F : Fun K "near" "Desk.near" sDkNear f fd) (D : DkK P w K mg base C CT CB) : FnOk P w K mg base CX0 6 f fd ["self", "way", "k", "x"] (spDkNear K C CT) := by
  obtain ⟨T, TB, ⟨g1, d1, G1, b1, m1⟩, ⟨g2, d2, G2, b2, m2⟩, ⟨g3, d3, G3, b3, m3⟩, _, _, ⟨g6, d6, G6, b6, m6⟩, _, ⟨g7, d7, G7, b7, m7, kp7⟩, g4, gQ⟩ := D
  refine F.ok scDkNear (fun vs H Q E h => ?_) (fun cdv A outer s H vs Q E hr h => ?_)
  · obtain ⟨N, d, st, way, k, x, rfl, _⟩ := h; rfl
  obtain ⟨N, d, st, way, k, x, rfl, ⟨dx, v, hd, tb⟩, fin⟩ := h
  have hr1 : Room 1 _ := hr.mono (by decide)
  have hr2 : Room 2 _ := hr.mono (by decide)
  refine ⟨_, pss_cons (ps_set (i := 4) scDkNear.nd rfl (Or.inl rfl) (pe_meth (pv 0) T.cl m1 G1 hr2 b1 .nil pass0 (pa_cons (pv 1) (pa_cons (pv 2) (pa_cons pe_bl pa_nil)))))
    (pss_cons (ps_if (pt_cmpR op_ne (pv 4) pe_int (nomark _)) (pss_one (ps_ret (pe_lst (pa_cons (pv 4) pa_nil)))) pss_nil)
    (pss_cons (ps_set (i := 5) scDkNear.nd rfl (Or.inl rfl) (pe_meth (pv 0) T.cl m2 G2 hr b2 .nil pass0 (pa_cons (pv 1) (pa_cons (pv 2) pa_nil))))
    (pss_cons (ps_if (pt_not (pt_val (pe_meth (pv 5) TB.cl m3 G3 hr1 b3 .nil pass0 (pa_cons (pv 3) (pa_cons pe_int pa_nil))))) (pss_one (ps_ret (pe_lst (pa_cons (pe_glo g4) pa_nil)))) pss_nil)
    (pss_cons (ps_set (i := 6) scDkNear.nd rfl (Or.inl rfl) (pe_meth (pv 5) TB.cl m6 G6 hr2 b6 .nil pass0 (pa_cons (pv 3) (pa_cons pe_int (pa_cons pe_int pa_nil)))))
    (pss_one (ps_ret (pe_lst (pa_cons pe_int (pa_cons (pe_call G7 hr1 rfl m7 kp7 b7 .nil pass0 (pa_cons (pe_ix ix_tup (pv 6) pe_int (fun _ _ => rfl)) (pa_cons (pe_ix ix_tup (pv 6) pe_int (fun _ _ => rfl)) pa_nil))) pa_nil))))))))), ?_⟩
  refine ⟨_, rfl, d, dx, _, rfl, hd, dk_no _ (by decide +kernel), _, rfl, _, rfl, N, d, st, way, k, true, rfl, ⟨dx, v, hd, tb⟩, fun H1 s1 => ?_⟩
  rw [BM.near_eq] at fin
  refine ⟨_, rfl, rfl, _, rfl, ite2 (fun z => ?_) (fun z => ?_)⟩
  · have z' := intNe.mp z
    rw [ref_ne (b := false) tb z'] at fin
    refine ⟨_, rfl, by show 1 ≤ sizeLine; decide, fun r hr => ?_⟩
    exact fin r _ (s1.free hr) (s1.trans (same_new hr _)) upd_same
  have z' : refI st way k (!false) = 0 := Classical.byContradiction fun e => z (intNe.mpr e)
  obtain ⟨t, xs, zs, ys, rfl, ta, G, rfl, hw, hb, k0, k1⟩ := ref_eq tb z'
  rw [← BM.near_eq] at fin
  have hd1 := s1 _ _ hd
  refine ⟨_, rfl, d, dx, _, rfl, hd1, dk_no _ (by decide +kernel), _, rfl, _, rfl, d, dx, t, xs, zs, ys, G, way, k, rfl, hd1, ta.same s1, hw, k0, k1, fun b H2 s2 hB => ?_⟩
  have Z : Small (lineOf G way.toNat k.toNat) := BM.lineSmall G (by omega) (by rw [BM.lines_eq hw]; omega)
  have hB' := hB
  obtain ⟨bx, xx, y, g, sx, hb2, _⟩ := hB
  refine ⟨_, rfl, b, bx, _, rfl, hb2, bt_no _ _ _ _ _ (by decide +kernel) (by decide +kernel) (by decide +kernel) (by decide +kernel) (by decide +kernel), _, rfl, b, _, x, 1, rfl, Z, hB', _, rfl, ite2 (fun c => ?_) (fun c => ?_)⟩
  · have c' : ¬ ((lineOf G way.toNat k.toNat).X 0 * 1 ≤ x ∧ x ≤ (lineOf G way.toNat k.toNat).X (lineOf G way.toNat k.toNat).n * 1) := by
      rintro ⟨e1, e2⟩
      rw [decide_eq_true e1, decide_eq_true e2] at c
      cases c
    rw [BM.near_far G hw ⟨k0, k1⟩ c'] at fin
    refine ⟨by show 1 ≤ sizeLine; decide, fun r hr => ?_⟩
    exact fin r _ ((s1.trans s2).free hr) ((s1.trans s2).trans (same_new hr _)) upd_same
  have c' : (lineOf G way.toNat k.toNat).X 0 * 1 ≤ x ∧ x ≤ (lineOf G way.toNat k.toNat).X (lineOf G way.toNat k.toNat).n * 1 := by
    refine Classical.byContradiction fun e => c ?_
    rw [Bool.not_eq_true', Bool.and_eq_false_iff, decide_eq_false_iff_not, decide_eq_false_iff_not]
    exact Classical.not_and_iff_not_or_not.mp e
  refine ⟨_, rfl, b, bx, _, rfl, hb2, bt_no _ _ _ _ _ (by decide +kernel) (by decide +kernel) (by decide +kernel) (by decide +kernel) (by decide +kernel), _, rfl, b, _, x, 1, 0, rfl, Z, hB', by decide, by decide, by decide, by decide, c'.1, c'.2, fun i t' H3 hi lo up s3 ht => ?_⟩
  rw [BM.near_ok G hw ⟨k0, k1⟩ hi c'.1 c'.2 lo up] at fin
  have xb : B x 64 := by
    have e1 := Z.x 0 (by omega)
    have e2 := Z.x _ (Nat.le_refl (lineOf G way.toNat k.toNat).n)
    have c1 := c'.1
    have c2 := c'.2
    rw [Int.mul_one] at c1 c2
    unfold B; omega
  have nb := Z.dnB i hi x 1 0 xb ⟨by decide, by decide⟩
  have db := Z.ddB i hi 1 0 ⟨by decide, by decide⟩
  have dp := Line.dden_pos (lineOf G way.toNat k.toNat) i hi 1 0 (by decide)
  refine ⟨_, rfl, t', _, _, _, rfl, rfl, SqT.of ht, rfl, _, rfl, t', _, _, _, rfl, rfl, SqT.of ht, rfl, _, _, rfl, dp, (db.mono (by omega : 1080 ≤ 9000)).lt, mulOk (nb.ediv dp) db (by omega), by show 2 ≤ sizeLine; decide, fun r hr => ?_⟩
  exact fin r _ (((s1.trans s2).trans s3).free hr) (((s1.trans s2).trans s3).trans (same_new hr _)) upd_same
theorem scDkPiece : FnScope ["self", "way", "k", "i", "refused", "batten", "cubic", "answer", "coefficient"] ["self", "way", "k", "i"] (defScope sDkPiece) := ⟨rfl, rfl, rfl, by decide +kernel, rfl, by decide +kernel, by decide +kernel⟩
/-- the answer after j coefficients -/
def pans (cs : List Int) (s : Int) (j : Nat) : List Int := 0 :: (cs.take j).flatMap fun c => lowI c s
theorem ok_dkPiece {f C CT CB : Addr} {fd : FuncData} (F : Fun K "piece" "Desk.piece" sDkPiece f fd) (D : DkK P w K mg base C CT CB) : FnOk P w K mg base CX0 6 f fd ["self", "way", "k", "i"] (spDkPiece K C CT) := by
  obtain ⟨T, TB, ⟨g1, d1, G1, b1, m1⟩, ⟨g2, d2, G2, b2, m2⟩, _, ⟨g3, d3, G3, b3, m3⟩, ⟨g6, d6, G6, b6, m6⟩, _, ⟨g7, d7, G7, b7, m7, kp7⟩, _, g4, gQ⟩ := D
  refine F.ok scDkPiece (fun vs H Q E h => ?_) (fun cdv A outer s H vs Q E hr h => ?_)
  · obtain ⟨N, d, st, way, k, x, rfl, _⟩ := h; rfl
  obtain ⟨N, d, st, way, k, x, rfl, ⟨dx, v, hd, tb⟩, fin⟩ := h
  have hr1 : Room 1 _ := hr.mono (by decide)
  have hr2 : Room 2 _ := hr.mono (by decide)
  refine ⟨_, pss_cons (ps_set (i := 4) scDkPiece.nd rfl (Or.inl rfl) (pe_meth (pv 0) T.cl m1 G1 hr2 b1 .nil pass0 (pa_cons (pv 1) (pa_cons (pv 2) (pa_cons pe_bl pa_nil)))))
    (pss_cons (ps_if (pt_cmpR op_ne (pv 4) pe_int (nomark _)) (pss_one (ps_ret (pe_lst (pa_cons (pv 4) pa_nil)))) pss_nil)
    (pss_cons (ps_set (i := 5) scDkPiece.nd rfl (Or.inl rfl) (pe_meth (pv 0) T.cl m2 G2 hr b2 .nil pass0 (pa_cons (pv 1) (pa_cons (pv 2) pa_nil))))
    (pss_cons (ps_if (pt_not (pt_val (pe_meth (pv 5) TB.cl m3 G3 hr1 b3 .nil pass0 (pa_cons (pv 3) pa_nil)))) (pss_one (ps_ret (pe_lst (pa_cons (pe_glo g4) pa_nil)))) pss_nil)
    (pss_cons (ps_set (i := 6) scDkPiece.nd rfl (Or.inl rfl) (pe_meth (pv 5) TB.cl m6 G6 hr1 b6 .nil pass0 (pa_cons (pv 3) pa_nil)))
    (pss_cons (ps_set (i := 7) scDkPiece.nd rfl (Or.inl rfl) (pe_lst (pa_cons pe_int pa_nil)))
    (pss_cons (ps_for PassesOwn.never rfl (pi_tup (pe_slice sl_tup (pv 6) po_none (po_some pe_int))) (pg_name (i := 8) scDkPiece.nd rfl (Or.inl rfl))
      (pss_one (ps_expr (pe_bm PySem.F.plainAttrs_list PySem.F.slot_list_extend PySem.F.type_list_extend mt_extend (pv 7) (pa_cons (pe_call G7 hr2 rfl m7 kp7 b7 .nil pass0 (pa_cons (pv 8) (pa_cons (pe_ix ix_tup (pv 6) pe_int (fun _ _ => rfl)) pa_nil))) pa_nil)))))
    (pss_one (ps_ret (pv 7))))))))), ?_⟩
  refine ⟨_, rfl, d, dx, _, rfl, hd, dk_no _ (by decide +kernel), _, rfl, _, rfl, N, d, st, way, k, true, rfl, ⟨dx, v, hd, tb⟩, fun H1 s1 => ?_⟩
  rw [BM.piece_eq] at fin
  refine ⟨_, rfl, rfl, _, rfl, ite2 (fun z => ?_) (fun z => ?_)⟩
  · have z' := intNe.mp z
    rw [ref_ne (b := false) tb z'] at fin
    refine ⟨_, rfl, by show 1 ≤ sizeLine; decide, fun r hr => ?_⟩
    exact fin r _ (s1.free hr) (s1.trans (same_new hr _)) upd_same
  have z' : refI st way k (!false) = 0 := Classical.byContradiction fun e => z (intNe.mpr e)
  obtain ⟨t, xs, zs, ys, rfl, ta, G, rfl, hw, hb, k0, k1⟩ := ref_eq tb z'
  rw [← BM.piece_eq] at fin
  have hd1 := s1 _ _ hd
  refine ⟨_, rfl, d, dx, _, rfl, hd1, dk_no _ (by decide +kernel), _, rfl, _, rfl, d, dx, t, xs, zs, ys, G, way, k, rfl, hd1, ta.same s1, hw, k0, k1, fun b H2 s2 hB => ?_⟩
  have Z : Small (lineOf G way.toNat k.toNat) := BM.lineSmall G (by omega) (by rw [BM.lines_eq hw]; omega)
  have hB' := hB
  obtain ⟨bx, xx, y, g, sx, hb2, _⟩ := hB
  refine ⟨_, rfl, b, bx, _, rfl, hb2, bt_no _ _ _ _ _ (by decide +kernel) (by decide +kernel) (by decide +kernel) (by decide +kernel) (by decide +kernel), _, rfl, b, _, x, rfl, hB', _, rfl, ite2 (fun c => ?_) (fun c => ?_)⟩
  · have c' : ¬ (0 ≤ x ∧ x < (lineOf G way.toNat k.toNat).n) := by
      rintro ⟨e1, e2⟩
      rw [decide_eq_true e1, decide_eq_true e2] at c
      cases c
    rw [BM.piece_no G hw ⟨k0, k1⟩ c'] at fin
    refine ⟨by show 1 ≤ sizeLine; decide, fun r hr => ?_⟩
    exact fin r _ ((s1.trans s2).free hr) ((s1.trans s2).trans (same_new hr _)) upd_same
  have c' : 0 ≤ x ∧ x < (lineOf G way.toNat k.toNat).n := by
    refine Classical.byContradiction fun e => c ?_
    rw [Bool.not_eq_true', Bool.and_eq_false_iff, decide_eq_false_iff_not, decide_eq_false_iff_not]
    exact Classical.not_and_iff_not_or_not.mp e
  obtain ⟨i, rfl⟩ : ∃ i : Nat, x = i := ⟨x.toNat, by omega⟩
  have hi : i < (lineOf G way.toNat k.toNat).n := by omega
  have sp := Line.scp _ i hi
  rw [BM.piece_ok G hw ⟨k0, k1⟩ hi] at fin
  refine ⟨_, rfl, b, bx, _, rfl, hb2, bt_no _ _ _ _ _ (by decide +kernel) (by decide +kernel) (by decide +kernel) (by decide +kernel) (by decide +kernel), _, rfl, b, _, i, rfl, Z, hB', hi, fun t' H3 s3 ht => ?_⟩
  generalize hL : lineOf G way.toNat k.toNat = L at *
  refine ⟨by show 1 ≤ sizeLine; decide, fun m hm => ?_⟩
  have s4 : Same H3 (upd H3 m (.lst [.int 0])) := same_new hm _
  have ht4 := s4 _ _ ht
  refine ⟨_, rfl, _, rfl, t', _, rfl, SqT.of ht4, (by show ¬ (HT.sIx 5 0 none = 0 ∧ HT.sIx 5 5 (some 4) = 5); decide), fun p hp => ?_⟩
  have s5 : Same (upd H3 m (.lst [.int 0])) (upd (upd H3 m (.lst [.int 0])) p (.tup [.int (L.Y i * L.scale i), .int (L.cb i), .int (L.cc i), .int (L.cd i)])) := same_new hp _
  have hcut : cutV [V.int (L.Y i * L.scale i), .int (L.cb i), .int (L.cc i), .int (L.cd i), .int (L.scale i)] none (some 4) = [.int (L.Y i * L.scale i), .int (L.cb i), .int (L.cc i), .int (L.cd i)] := rfl
  have hpm : p ≠ m := fun e => by rw [e, upd_same] at hp; cases hp
  have s35 : Same H3 (upd (upd H3 m (.lst [.int 0])) p (.tup [.int (L.Y i * L.scale i), .int (L.cb i), .int (L.cc i), .int (L.cd i)])) := s4.trans s5
  refine ⟨p, rfl, ⟨_, seqT⟩, for_tup (K := K) (a := p) (xs := ([L.Y i * L.scale i, L.cb i, L.cc i, L.cd i] : List Int).map V.int)
    (fun j σ H' => ∃ v8 : Option V, σ = [some (.ref d), some (.int way), some (.int k), some (.int i), some (.int 0), some (.ref b), some (.ref t'), some (.ref m), v8] ∧ Same H3 H' ∧
      H' p = some (.tup (([L.Y i * L.scale i, L.cb i, L.cc i, L.cd i] : List Int).map V.int)) ∧ H' m = some (ansV (pans [L.Y i * L.scale i, L.cb i, L.cc i, L.cd i] (L.scale i) j)))
    ⟨none, ?_, s35, by rw [upd_same]; rfl, by rw [upd_ne (Ne.symm hpm), upd_same]; rfl⟩ (fun j σ H' _ ⟨_, _, _, h, _⟩ => SqT.of h) ?_ ?_⟩
  · rw [show refI (some (tableOf xs zs ys)) way k true = 0 from z']; rfl
  · rintro j y σ H' hj ⟨v8, rfl, s6, h6, h7⟩
    obtain ⟨c, hc, rfl, hjl, _, _⟩ := map_get hj
    have hjl : j < 4 := hjl
    have sb := ((Z.scB i hi).mono (by omega : 1012 ≤ 9000)).lt
    refine ⟨_, rfl, .inl ⟨rfl, _, SqL.of h7⟩, _, rfl, _, rfl, t', _, _, _, rfl, rfl, SqT.of (s6 _ _ ht), rfl, c, L.scale i, rfl, sp, sb, fun u hu => ?_⟩
    have s7 := same_new hu (.lst [.int (c / (Nat.gcd c.natAbs (L.scale i).natAbs : Int)), .int (L.scale i / (Nat.gcd c.natAbs (L.scale i).natAbs : Int))])
    have len : ((pans [L.Y i * L.scale i, L.cb i, L.cc i, L.cd i] (L.scale i) j).map V.int).length ≤ 9 := by
      rw [List.length_map]
      match j, hjl with
      | 0, _ => show 1 ≤ 9; decide
      | 1, _ => show 3 ≤ 9; decide
      | 2, _ => show 5 ≤ 9; decide
      | 3, _ => show 7 ≤ 9; decide
    refine ⟨m, u, _, _, rfl, rfl, s7 _ _ h7, upd_same, Nat.le_trans (Nat.add_le_add_right len 2) (by decide), ?_⟩
    refine ⟨_, rfl, fun b o e => ?_, ?_, ?_⟩
    · rw [upd_ne (ne_of_none e hm)]; exact s7 _ _ (s6 b o e)
    · rw [upd_ne hpm]; exact s7 _ _ h6
    · rw [upd_same]
      unfold ansV
      congr 2
      match j, hjl, hc with
      | 0, _, hc => cases hc; rfl
      | 1, _, hc => cases hc; rfl
      | 2, _, hc => cases hc; rfl
      | 3, _, hc => cases hc; rfl
  · rintro σ H' ⟨v8, rfl, s6, h6, h7⟩
    refine ⟨_, rfl, ?_⟩
    refine fin m H' (((s1.trans s2).trans s3).free hm) (((s1.trans s2).trans s3).trans s6) ?_
    rw [h7]
    rfl
end
end PB

set_option Elab.async false
set_option linter.all false
set_option maxRecDepth 100000
set_option maxHeartbeats 4000000
namespace PB
open PySem PySem.Spec PyProof.Rows L2
open BM (Line Small B seg prodL Good linesI lineX lineY lineN lineOf tableOf lowI)
abbrev sDkBend : Stmt := inClass (top 42) 7
abbrev sDkTurn : Stmt := inClass (top 42) 8
abbrev sDkTop : Stmt := inClass (top 42) 9
def spDkBend (K : PySem.W.Frag) (C CT : Addr) : Sp := fun vs H Q _ => ∃ (N : Addr → Prop) (d : Addr) (s : LoftBattenSeed.State) (way k : Int), vs = [.ref d, .int way, .int k] ∧ DkAt K C CT N H d s ∧
  ∀ r H', H r = none → Same H H' → H' r = some (ansV (LoftBattenSeed.step s (.bending way k)).2) → Q (.ref r) H'
def spDkTurn (K : PySem.W.Frag) (C CT : Addr) : Sp := fun vs H Q _ => ∃ (N : Addr → Prop) (d : Addr) (s : LoftBattenSeed.State) (way k : Int), vs = [.ref d, .int way, .int k] ∧ DkAt K C CT N H d s ∧
  ∀ r H', H r = none → Same H H' → H' r = some (ansV (LoftBattenSeed.step s (.turns way k)).2) → Q (.ref r) H'
def spDkTop (K : PySem.W.Frag) (C CT : Addr) : Sp := fun vs H Q _ => ∃ (N : Addr → Prop) (d : Addr) (s : LoftBattenSeed.State) (way k : Int), vs = [.ref d, .int way, .int k] ∧ DkAt K C CT N H d s ∧
  ∀ r H', H r = none → Same H H' → H' r = some (ansV (LoftBattenSeed.step s (.top way k)).2) → Q (.ref r) H'
section
variable {P : Program} {w : World} {K : PySem.W.Frag} {mg : Str → Option Value} {base : Heap}
/-- what the three calls of a whole line lean on -/
structure DkE (P : Program) (w : World) (K : PySem.W.Frag) (mg : Str → Option Value) (base : Heap) (C CT CB : Addr) : Prop where
  T : DkC K C
  TB : BtC K CB
  ref : ∃ g d, FnOk P w K mg base CX0 2 g d ["self", "way", "k", "others_right"] (spDkRef K C CT) ∧ Binds K d ["self", "way", "k", "others_right"] [] ∧ Meth K C "refusal" g
  bat : ∃ g d, FnOk P w K mg base CX0 5 g d ["self", "way", "k"] (spDkBat K C CT CB) ∧ Binds K d ["self", "way", "k"] [] ∧ Meth K C "batten" g
  bend : ∃ g d, FnOk P w K mg base CX0 1 g d ["self"] (spBtBend K CB) ∧ Binds K d ["self"] [] ∧ Meth K CB "bending" g
  turn : ∃ g d, FnOk P w K mg base CX0 1 g d ["self"] (spBtTurn K CB) ∧ Binds K d ["self"] [] ∧ Meth K CB "turns" g
  top : ∃ g d, FnOk P w K mg base CX0 3 g d ["self"] (spBtTop K CB) ∧ Binds K d ["self"] [] ∧ Meth K CB "top" g
  low : ∃ g d, FnOk P w K mg base CX0 2 g d ["above", "below"] spLow ∧ Binds K d ["above", "below"] [] ∧ mg "lowest" = some (.ref g) ∧ PySem.W.keepIn K (.ref g) = true
theorem scDkBend : FnScope ["self", "way", "k", "refused", "found"] ["self", "way", "k"] (defScope sDkBend) := ⟨rfl, rfl, rfl, by decide +kernel, rfl, by decide +kernel, by decide +kernel⟩
theorem ok_dkBend {f C CT CB : Addr} {fd : FuncData} (F : Fun K "bending" "Desk.bending" sDkBend f fd) (D : DkE P w K mg base C CT CB) : FnOk P w K mg base CX0 6 f fd ["self", "way", "k"] (spDkBend K C CT) := by
  obtain ⟨T, TB, ⟨g1, d1, G1, b1, m1⟩, ⟨g2, d2, G2, b2, m2⟩, ⟨g3, d3, G3, b3, m3⟩, _, _, ⟨g7, d7, G7, b7, m7, kp7⟩⟩ := D
  refine F.ok scDkBend (fun vs H Q E h => ?_) (fun cdv A outer s H vs Q E hr h => ?_)
  · obtain ⟨N, d, st, way, k, rfl, _⟩ := h; rfl
  obtain ⟨N, d, st, way, k, rfl, ⟨dx, v, hd, tb⟩, fin⟩ := h
  have hr1 : Room 1 _ := hr.mono (by decide)
  have hr2 : Room 2 _ := hr.mono (by decide)
  refine ⟨_, pss_cons (ps_set (i := 3) scDkBend.nd rfl (Or.inl rfl) (pe_meth (pv 0) T.cl m1 G1 hr2 b1 .nil pass0 (pa_cons (pv 1) (pa_cons (pv 2) (pa_cons pe_bl pa_nil)))))
    (pss_cons (ps_if (pt_cmpR op_ne (pv 3) pe_int (nomark _)) (pss_one (ps_ret (pe_lst (pa_cons (pv 3) pa_nil)))) pss_nil)
    (pss_cons (ps_set (i := 4) scDkBend.nd rfl (Or.inl rfl) (pe_meth0 (pe_meth (pv 0) T.cl m2 G2 hr b2 .nil pass0 (pa_cons (pv 1) (pa_cons (pv 2) pa_nil))) TB.cl m3 G3 hr1 b3 .nil pass0))
    (pss_one (ps_ret (pe_op op_cat (pe_lst (pa_cons pe_int pa_nil)) (pe_call G7 hr2 rfl m7 kp7 b7 .nil pass0 (pa_cons (pe_ix ix_tup (pv 4) pe_int (fun _ _ => rfl)) (pa_cons (pe_ix ix_tup (pv 4) pe_int (fun _ _ => rfl)) pa_nil)))))))), ?_⟩
  refine ⟨_, rfl, d, dx, _, rfl, hd, dk_no _ (by decide +kernel), _, rfl, _, rfl, N, d, st, way, k, true, rfl, ⟨dx, v, hd, tb⟩, fun H1 s1 => ?_⟩
  rw [BM.bending_eq] at fin
  refine ⟨_, rfl, rfl, _, rfl, ite2 (fun z => ?_) (fun z => ?_)⟩
  · have z' := intNe.mp z
    rw [ref_ne (b := false) tb z'] at fin
    refine ⟨_, rfl, by show 1 ≤ sizeLine; decide, fun r hr => ?_⟩
    exact fin r _ (s1.free hr) (s1.trans (same_new hr _)) upd_same
  have z' : refI st way k (!false) = 0 := Classical.byContradiction fun e => z (intNe.mpr e)
  obtain ⟨t, xs, zs, ys, rfl, ta, G, rfl, hw, hb, k0, k1⟩ := ref_eq tb z'
  rw [← BM.bending_eq] at fin
  have hd1 := s1 _ _ hd
  refine ⟨_, rfl, d, dx, _, rfl, hd1, dk_no _ (by decide +kernel), _, rfl, _, rfl, d, dx, t, xs, zs, ys, G, way, k, rfl, hd1, ta.same s1, hw, k0, k1, fun b H2 s2 hB => ?_⟩
  have Z : Small (lineOf G way.toNat k.toNat) := BM.lineSmall G (by omega) (by rw [BM.lines_eq hw]; omega)
  have hB' := hB
  obtain ⟨bx, xx, y, g, sx, hb2, _⟩ := hB
  rw [BM.bending_ok G hw ⟨k0, k1⟩] at fin
  refine ⟨b, bx, _, rfl, hb2, bt_no _ _ _ _ _ (by decide +kernel) (by decide +kernel) (by decide +kernel) (by decide +kernel) (by decide +kernel), b, _, rfl, Z, hB', fun t' H3 s3 ht => ?_⟩
  generalize hL : lineOf G way.toNat k.toNat = L at *
  refine ⟨by show 1 ≤ sizeLine; decide, fun m hm => ?_⟩
  have ht2 : (upd H3 m (.lst [.int 0])) t' = some (.tup [.int (12 * L.bsum L.n), .int (L.U * L.U)]) := by rw [upd_ne (ne_of_none ht hm)]; exact ht
  refine ⟨_, rfl, t', _, _, _, rfl, rfl, SqT.of ht2, rfl, _, rfl, t', _, _, _, rfl, rfl, SqT.of ht2, rfl, _, _, rfl, Int.mul_pos L.Up L.Up, lt9000 (BM.uuB Z) (by omega), fun u hu => ?_⟩
  have hmu : m ≠ u := ne_of_none upd_same hu
  refine ⟨m, u, _, _, rfl, rfl, by rw [upd_ne hmu, upd_same], upd_same, by show 1 + 2 ≤ sizeLine; decide, fun r hr => ?_⟩
  exact fin r _ (((((s1.trans s2).trans s3).trans (same_new hm _)).trans (same_new hu _)).free hr) ((((s1.trans s2).trans s3).trans (same_new hm _)).trans ((same_new hu _).trans (same_new hr _))) upd_same
theorem scDkTurn : FnScope ["self", "way", "k", "refused"] ["self", "way", "k"] (defScope sDkTurn) := ⟨rfl, rfl, rfl, by decide +kernel, rfl, by decide +kernel, by decide +kernel⟩
theorem ok_dkTurn {f C CT CB : Addr} {fd : FuncData} (F : Fun K "turns" "Desk.turns" sDkTurn f fd) (D : DkE P w K mg base C CT CB) : FnOk P w K mg base CX0 6 f fd ["self", "way", "k"] (spDkTurn K C CT) := by
  obtain ⟨T, TB, ⟨g1, d1, G1, b1, m1⟩, ⟨g2, d2, G2, b2, m2⟩, _, ⟨g3, d3, G3, b3, m3⟩, _, _⟩ := D
  refine F.ok scDkTurn (fun vs H Q E h => ?_) (fun cdv A outer s H vs Q E hr h => ?_)
  · obtain ⟨N, d, st, way, k, rfl, _⟩ := h; rfl
  obtain ⟨N, d, st, way, k, rfl, ⟨dx, v, hd, tb⟩, fin⟩ := h
  have hr1 : Room 1 _ := hr.mono (by decide)
  have hr2 : Room 2 _ := hr.mono (by decide)
  refine ⟨_, pss_cons (ps_set (i := 3) scDkTurn.nd rfl (Or.inl rfl) (pe_meth (pv 0) T.cl m1 G1 hr2 b1 .nil pass0 (pa_cons (pv 1) (pa_cons (pv 2) (pa_cons pe_bl pa_nil)))))
    (pss_cons (ps_if (pt_cmpR op_ne (pv 3) pe_int (nomark _)) (pss_one (ps_ret (pe_lst (pa_cons (pv 3) pa_nil)))) pss_nil)
    (pss_one (ps_ret (pe_lst (pa_cons pe_int (pa_cons (pe_meth0 (pe_meth (pv 0) T.cl m2 G2 hr b2 .nil pass0 (pa_cons (pv 1) (pa_cons (pv 2) pa_nil))) TB.cl m3 G3 hr1 b3 .nil pass0) pa_nil)))))), ?_⟩
  refine ⟨_, rfl, d, dx, _, rfl, hd, dk_no _ (by decide +kernel), _, rfl, _, rfl, N, d, st, way, k, true, rfl, ⟨dx, v, hd, tb⟩, fun H1 s1 => ?_⟩
  rw [BM.turns_eq] at fin
  refine ⟨_, rfl, rfl, _, rfl, ite2 (fun z => ?_) (fun z => ?_)⟩
  · have z' := intNe.mp z
    rw [ref_ne (b := false) tb z'] at fin
    refine ⟨_, rfl, by show 1 ≤ sizeLine; decide, fun r hr => ?_⟩
    exact fin r _ (s1.free hr) (s1.trans (same_new hr _)) upd_same
  have z' : refI st way k (!false) = 0 := Classical.byContradiction fun e => z (intNe.mpr e)
  obtain ⟨t, xs, zs, ys, rfl, ta, G, rfl, hw, hb, k0, k1⟩ := ref_eq tb z'
  rw [← BM.turns_eq] at fin
  have hd1 := s1 _ _ hd
  refine ⟨_, rfl, d, dx, _, rfl, hd1, dk_no _ (by decide +kernel), _, rfl, _, rfl, d, dx, t, xs, zs, ys, G, way, k, rfl, hd1, ta.same s1, hw, k0, k1, fun b H2 s2 hB => ?_⟩
  have Z : Small (lineOf G way.toNat k.toNat) := BM.lineSmall G (by omega) (by rw [BM.lines_eq hw]; omega)
  have hB' := hB
  obtain ⟨bx, xx, y, g, sx, hb2, _⟩ := hB
  rw [BM.turns_ok G hw ⟨k0, k1⟩, BM.turns_by] at fin
  refine ⟨b, bx, _, rfl, hb2, bt_no _ _ _ _ _ (by decide +kernel) (by decide +kernel) (by decide +kernel) (by decide +kernel) (by decide +kernel), b, _, rfl, Z, hB', fun H3 s3 => ?_⟩
  refine ⟨by show 2 ≤ sizeLine; decide, fun r hr => ?_⟩
  exact fin r _ (((s1.trans s2).trans s3).free hr) (((s1.trans s2).trans s3).trans (same_new hr _)) upd_same
theorem scDkTop : FnScope ["self", "way", "k", "refused"] ["self", "way", "k"] (defScope sDkTop) := ⟨rfl, rfl, rfl, by decide +kernel, rfl, by decide +kernel, by decide +kernel⟩
theorem ok_dkTop {f C CT CB : Addr} {fd : FuncData} (F : Fun K "top" "Desk.top" sDkTop f fd) (D : DkE P w K mg base C CT CB) : FnOk P w K mg base CX0 6 f fd ["self", "way", "k"] (spDkTop K C CT) := by
  obtain ⟨T, TB, ⟨g1, d1, G1, b1, m1⟩, ⟨g2, d2, G2, b2, m2⟩, _, _, ⟨g3, d3, G3, b3, m3⟩, _⟩ := D
  refine F.ok scDkTop (fun vs H Q E h => ?_) (fun cdv A outer s H vs Q E hr h => ?_)
  · obtain ⟨N, d, st, way, k, rfl, _⟩ := h; rfl
  obtain ⟨N, d, st, way, k, rfl, ⟨dx, v, hd, tb⟩, fin⟩ := h
  have hr2 : Room 2 _ := hr.mono (by decide)
  have hr3 : Room 3 _ := hr.mono (by decide)
  refine ⟨_, pss_cons (ps_set (i := 3) scDkTop.nd rfl (Or.inl rfl) (pe_meth (pv 0) T.cl m1 G1 hr2 b1 .nil pass0 (pa_cons (pv 1) (pa_cons (pv 2) (pa_cons pe_bl pa_nil)))))
    (pss_cons (ps_if (pt_cmpR op_ne (pv 3) pe_int (nomark _)) (pss_one (ps_ret (pe_lst (pa_cons (pv 3) pa_nil)))) pss_nil)
    (pss_one (ps_ret (pe_lst (pa_cons pe_int (pa_cons (pe_meth0 (pe_meth (pv 0) T.cl m2 G2 hr b2 .nil pass0 (pa_cons (pv 1) (pa_cons (pv 2) pa_nil))) TB.cl m3 G3 hr3 b3 .nil pass0) pa_nil)))))), ?_⟩
  refine ⟨_, rfl, d, dx, _, rfl, hd, dk_no _ (by decide +kernel), _, rfl, _, rfl, N, d, st, way, k, true, rfl, ⟨dx, v, hd, tb⟩, fun H1 s1 => ?_⟩
  rw [BM.top_eq] at fin
  refine ⟨_, rfl, rfl, _, rfl, ite2 (fun z => ?_) (fun z => ?_)⟩
  · have z' := intNe.mp z
    rw [ref_ne (b := false) tb z'] at fin
    refine ⟨_, rfl, by show 1 ≤ sizeLine; decide, fun r hr => ?_⟩
    exact fin r _ (s1.free hr) (s1.trans (same_new hr _)) upd_same
  have z' : refI st way k (!false) = 0 := Classical.byContradiction fun e => z (intNe.mpr e)
  obtain ⟨t, xs, zs, ys, rfl, ta, G, rfl, hw, hb, k0, k1⟩ := ref_eq tb z'
  rw [← BM.top_eq] at fin
  have hd1 := s1 _ _ hd
  refine ⟨_, rfl, d, dx, _, rfl, hd1, dk_no _ (by decide +kernel), _, rfl, _, rfl, d, dx, t, xs, zs, ys, G, way, k, rfl, hd1, ta.same s1, hw, k0, k1, fun b H2 s2 hB => ?_⟩
  have Z : Small (lineOf G way.toNat k.toNat) := BM.lineSmall G (by omega) (by rw [BM.lines_eq hw]; omega)
  have hB' := hB
  obtain ⟨bx, xx, y, g, sx, hb2, _⟩ := hB
  rw [BM.top_ok G hw ⟨k0, k1⟩] at fin
  refine ⟨b, bx, _, rfl, hb2, bt_no _ _ _ _ _ (by decide +kernel) (by decide +kernel) (by decide +kernel) (by decide +kernel) (by decide +kernel), b, _, rfl, Z, hB', fun H3 s3 => ?_⟩
  refine ⟨by show 2 ≤ sizeLine; decide, fun r hr => ?_⟩
  exact fin r _ (((s1.trans s2).trans s3).free hr) (((s1.trans s2).trans s3).trans (same_new hr _)) upd_same
end
end PB

set_option Elab.async false
set_option linter.all false
set_option maxRecDepth 100000
set_option maxHeartbeats 4000000
namespace PB
open PySem PySem.Spec PyProof.Rows L2
open BM (Good tableOf CallIs)
abbrev sLine : Stmt := top 43
abbrev sCall : Stmt := top 44
abbrev sAns : Stmt := top 45
/-- a call on a line: its number, what comes behind it -/
inductive LineIs : Int → List Int → LoftBattenSeed.Call → Prop where
  | at_ (w k p q a : Int) : LineIs 2 [w, k, p, q, a] (.at_ w k p q a)
  | near (w k x : Int) : LineIs 3 [w, k, x] (.near w k x)
  | piece (w k i : Int) : LineIs 4 [w, k, i] (.piece w k i)
  | bending (w k : Int) : LineIs 5 [w, k] (.bending w k)
  | turns (w k : Int) : LineIs 6 [w, k] (.turns w k)
  | top (w k : Int) : LineIs 7 [w, k] (.top w k)
theorem line_state {n : Int} {l : List Int} {cc : LoftBattenSeed.Call} (h : LineIs n l cc) (s : LoftBattenSeed.State) : (LoftBattenSeed.step s cc).1 = s := by cases h <;> rfl
def RdAt (CR : Addr) (H : Hp) (r l : Addr) (i : Nat) : Prop := ∃ dx, H r = some (.ins CR dx (rdF l i))
theorem DkAt.but {K : PySem.W.Frag} {C CT CR : Addr} {N : Addr → Prop} {H H' : Hp} {d r dx : Addr} {fs : List (Str × V)} {s : LoftBattenSeed.State} (t : DkAt K C CT N H d s) (e : But r H H') (hr : H r = some (.ins CR dx fs)) (h1 : C ≠ CR) (h2 : CT ≠ CR) : DkAt K C CT N H' d s := by
  obtain ⟨dy, v, h, t⟩ := t
  refine ⟨dy, v, e _ _ h (ne_of h hr (by intro q; injection q with q; exact h1 q)), ?_⟩
  rcases t with t | ⟨t, xs, zs, ys, e1, e2, e3⟩
  · exact .inl t
  · exact .inr ⟨t, xs, zs, ys, e1, e2.but e hr h2, e3⟩
/-- what stands neither at d nor at r is as it was -/
def But2 (d r : Addr) (H H' : Hp) : Prop := ∀ b o, H b = some o → b ≠ d → b ≠ r → H' b = some o
def spLine (K : PySem.W.Frag) (C CT CR : Addr) : Sp := fun vs H Q _ => ∃ (N : Addr → Prop) (d r l : Addr) (s : LoftBattenSeed.State) (n : Int) (ns args rest : List Int) (i : Nat) (cc : LoftBattenSeed.Call), vs = [.ref d, .int n, .ref r] ∧ LineIs n args cc ∧ DkAt K C CT N H d s ∧ RdAt CR H r l i ∧ SqL K H l (ns.map V.int) ∧ ns.drop i = args ++ rest ∧
  ∀ a H', H a = none → H' a = some (ansV (LoftBattenSeed.step s cc).2) → DkAt K C CT N H' d s → RdAt CR H' r l (i + args.length) → But r H H' → Q (.ref a) H'
def spCall (K : PySem.W.Frag) (C CT CR : Addr) (ok : LoftBattenSeed.Call → Prop) : Sp := fun vs H Q _ => ∃ (N : Addr → Prop) (d r l : Addr) (s : LoftBattenSeed.State) (ns rest : List Int) (i : Nat) (c : List (List Int)) (cc : LoftBattenSeed.Call), vs = [.ref d, .ref r] ∧ CallIs c cc ∧ ok cc ∧ (∀ a, H a = none → N a) ∧ DkAt K C CT N H d s ∧ RdAt CR H r l i ∧ SqL K H l (ns.map V.int) ∧ ns.length ≤ 16000 ∧ ns.drop i = PyFlat.put1 c ++ rest ∧
  ∀ a H', H a = none → H' a = some (ansV (LoftBattenSeed.step s cc).2) → DkAt K C CT N H' d (LoftBattenSeed.step s cc).1 → RdAt CR H' r l (i + (PyFlat.put1 c).length) → But2 d r H H' → Q (.ref a) H'
def spAns (K : PySem.W.Frag) (ok : LoftBattenSeed.Call → Prop) : Sp := fun vs H Q _ => ∃ (l : Addr) (cs : List (List (List Int))), vs = [.ref l] ∧ SqL K H l ((PyFlat.put cs).map V.int) ∧ (PyFlat.put cs).length ≤ 16000 ∧ (∀ c ∈ cs, ∃ cc, CallIs c cc ∧ ok cc) ∧ cs.length ≤ 1000 ∧
  ∀ a H', H' a = some (ansV (PyFlat.told (PyFlat.played BattenNeutral.step BattenNeutral.start cs))) → Q (.ref a) H'
theorem drop_next {ns r : List Int} {i : Nat} {z : Int} (h : ns.drop i = z :: r) : ns[i]? = some z ∧ ns.drop (i + 1) = r := by
  have hi : i < ns.length := by
    refine Nat.lt_of_not_le fun c => ?_
    rw [List.drop_eq_nil_of_le c] at h; cases h
  have e := List.drop_eq_getElem_cons hi
  rw [h] at e
  injection e with e1 e2
  exact ⟨by rw [List.getElem?_eq_getElem hi, e1], e2.symm⟩
/-- what was free ahead of the reader's steps -/
theorem But.free {p : Addr} {H H' : Hp} (e : But p H H') {o : HO} (hp : H' p = some o) {l : Addr} (h : H' l = none) : H l = none := by
  cases q : H l with
  | none => rfl
  | some u =>
    have : l ≠ p := fun z => by rw [z, hp] at h; cases h
    rw [e _ _ q this] at h; cases h
theorem same_but {p : Addr} {H H' : Hp} (s : Same H H') : But p H H' := fun b o e _ => s b o e
section
variable {P : Program} {w : World} {K : PySem.W.Frag} {mg : Str → Option Value} {base : Heap}
/-- what the calls lean on -/
structure AnK (P : Program) (w : World) (K : PySem.W.Frag) (mg : Str → Option Value) (base : Heap) (C CT CR : Addr) : Prop where
  T : DkC K C
  R : RdC K CR
  n1 : C ≠ CR
  n2 : CT ≠ CR
  num : ∃ g d, FnOk P w K mg base CX0 1 g d ["self"] (spRdNum CR K) ∧ Binds K d ["self"] [] ∧ Meth K CR "number" g
  row : ∃ g d, FnOk P w K mg base CX0 2 g d ["self"] (spRdRow CR K) ∧ Binds K d ["self"] [] ∧ Meth K CR "row" g
  make : ∃ g d, FnOk P w K mg base CX0 3 g d ["self", "places", "heights", "breadths"] (spDkMake K C CT) ∧ Binds K d ["self", "places", "heights", "breadths"] [] ∧ Meth K C "make" g
  at_ : ∃ g d, FnOk P w K mg base CX0 6 g d ["self", "way", "k", "p", "q", "what"] (spDkAt K C CT) ∧ Binds K d ["self", "way", "k", "p", "q", "what"] [] ∧ Meth K C "at" g
  near : ∃ g d, FnOk P w K mg base CX0 6 g d ["self", "way", "k", "x"] (spDkNear K C CT) ∧ Binds K d ["self", "way", "k", "x"] [] ∧ Meth K C "near" g
  piece : ∃ g d, FnOk P w K mg base CX0 6 g d ["self", "way", "k", "i"] (spDkPiece K C CT) ∧ Binds K d ["self", "way", "k", "i"] [] ∧ Meth K C "piece" g
  bend : ∃ g d, FnOk P w K mg base CX0 6 g d ["self", "way", "k"] (spDkBend K C CT) ∧ Binds K d ["self", "way", "k"] [] ∧ Meth K C "bending" g
  turn : ∃ g d, FnOk P w K mg base CX0 6 g d ["self", "way", "k"] (spDkTurn K C CT) ∧ Binds K d ["self", "way", "k"] [] ∧ Meth K C "turns" g
  top : ∃ g d, FnOk P w K mg base CX0 6 g d ["self", "way", "k"] (spDkTop K C CT) ∧ Binds K d ["self", "way", "k"] [] ∧ Meth K C "top" g
theorem scLine : FnScope ["desk", "call", "reader", "way", "k", "p", "q", "what"] ["desk", "call", "reader"] (defScope sLine) := ⟨rfl, rfl, rfl, by decide +kernel, rfl, by decide +kernel, by decide +kernel⟩
theorem ok_line {f C CT CR : Addr} {fd : FuncData} (F : Fun K "answer_line_call" "answer_line_call" sLine f fd) (D : AnK P w K mg base C CT CR) (g2 : Glo mg "AT" 2) (g3 : Glo mg "NEAR" 3) (g4 : Glo mg "PIECE" 4) (g5 : Glo mg "BENDING" 5) (g6 : Glo mg "TURNS" 6) (g7 : Glo mg "TOP" 7) : FnOk P w K mg base CX0 7 f fd ["desk", "call", "reader"] (spLine K C CT CR) := by
  obtain ⟨T, R, n1, n2, ⟨x1, d1, G1, b1, m1⟩, _, _, ⟨x2, d2, G2, b2, m2⟩, ⟨x3, d3, G3, b3, m3⟩, ⟨x4, d4, G4, b4, m4⟩, ⟨x5, d5, G5, b5, m5⟩, ⟨x6, d6, G6, b6, m6⟩, ⟨x7, d7, G7, b7, m7⟩⟩ := D
  refine F.ok scLine (fun vs H Q E h => ?_) (fun cdv A outer s H vs Q E hr h => ?_)
  · obtain ⟨N, d, r, l, st, n, ns, args, rest, i, cc, rfl, _⟩ := h; rfl
  obtain ⟨N, d, r, l, st, n, ns, args, rest, i, cc, rfl, hc, hd, ⟨dr, hR⟩, hS, hn, fin⟩ := h
  have hr1 : Room 1 _ := hr.mono (by decide)
  refine ⟨_, pss_cons (ps_set (i := 3) scLine.nd rfl (Or.inl rfl) (pe_meth0 (pv 2) R.cl m1 G1 hr1 b1 .nil pass0))
    (pss_cons (ps_set (i := 4) scLine.nd rfl (Or.inl rfl) (pe_meth0 (pv 2) R.cl m1 G1 hr1 b1 .nil pass0))
    (pss_cons (ps_if (pt_cmpR op_eq (pv 1) (pe_glo g2) (nomark _))
      (pss_cons (ps_set (i := 5) scLine.nd rfl (Or.inl rfl) (pe_meth0 (pv 2) R.cl m1 G1 hr1 b1 .nil pass0))
      (pss_cons (ps_set (i := 6) scLine.nd rfl (Or.inl rfl) (pe_meth0 (pv 2) R.cl m1 G1 hr1 b1 .nil pass0))
      (pss_cons (ps_set (i := 7) scLine.nd rfl (Or.inl rfl) (pe_meth0 (pv 2) R.cl m1 G1 hr1 b1 .nil pass0))
      (pss_one (ps_ret (pe_meth (pv 0) T.cl m2 G2 hr b2 .nil pass0 (pa_cons (pv 3) (pa_cons (pv 4) (pa_cons (pv 5) (pa_cons (pv 6) (pa_cons (pv 7) pa_nil))))))))))) pss_nil)
    (pss_cons (ps_if (pt_cmpR op_eq (pv 1) (pe_glo g3) (nomark _)) (pss_one (ps_ret (pe_meth (pv 0) T.cl m3 G3 hr b3 .nil pass0 (pa_cons (pv 3) (pa_cons (pv 4) (pa_cons (pe_meth0 (pv 2) R.cl m1 G1 hr1 b1 .nil pass0) pa_nil)))))) pss_nil)
    (pss_cons (ps_if (pt_cmpR op_eq (pv 1) (pe_glo g4) (nomark _)) (pss_one (ps_ret (pe_meth (pv 0) T.cl m4 G4 hr b4 .nil pass0 (pa_cons (pv 3) (pa_cons (pv 4) (pa_cons (pe_meth0 (pv 2) R.cl m1 G1 hr1 b1 .nil pass0) pa_nil)))))) pss_nil)
    (pss_cons (ps_if (pt_cmpR op_eq (pv 1) (pe_glo g5) (nomark _)) (pss_one (ps_ret (pe_meth (pv 0) T.cl m5 G5 hr b5 .nil pass0 (pa_cons (pv 3) (pa_cons (pv 4) pa_nil))))) pss_nil)
    (pss_cons (ps_if (pt_cmpR op_eq (pv 1) (pe_glo g6) (nomark _)) (pss_one (ps_ret (pe_meth (pv 0) T.cl m6 G6 hr b6 .nil pass0 (pa_cons (pv 3) (pa_cons (pv 4) pa_nil))))) pss_nil)
    (pss_cons (ps_if (pt_cmpR op_eq (pv 1) (pe_glo g7) (nomark _)) (pss_one (ps_ret (pe_meth (pv 0) T.cl m7 G7 hr b7 .nil pass0 (pa_cons (pv 3) (pa_cons (pv 4) pa_nil))))) pss_nil)
    (pss_one ps_never)))))))), ?_⟩
  have no : ∀ (j : Nat), (rdF l (j : Int)).lookup ("number" : Str) = none := fun j => rd_no _ _ (by decide +kernel) (by decide +kernel)
  have dno : ∀ v {m : Str}, ¬ m = "table" → (dkF v).lookup m = none := fun v _ h => dk_no v h
  obtain ⟨wy, k, tl, hargs⟩ : ∃ wy k tl, args = wy :: k :: tl := by cases hc <;> exact ⟨_, _, _, rfl⟩
  subst hargs
  obtain ⟨i0, t0⟩ := drop_next hn
  obtain ⟨i1, t1⟩ := drop_next t0
  refine ⟨_, rfl, r, dr, _, rfl, hR, no _, r, dr, l, ns, i, wy, rfl, hR, hS, i0, fun H1 hR1 u1 _ => ?_⟩
  have hS1 := u1.seq hR hS
  refine ⟨_, rfl, r, dr, _, rfl, hR1, no _, r, dr, l, ns, i + 1, k, rfl, hR1, hS1, i1, fun H2 hR2 u2 _ => ?_⟩
  have hS2 := u2.seq hR1 hS1
  have hd2 := (hd.but u1 hR n1 n2).but u2 hR1 n1 n2
  have u02 := u1.trans u2
  cases hc with
  | at_ _ _ p q a =>
    obtain ⟨i2, t2⟩ := drop_next t1
    obtain ⟨i3, t3⟩ := drop_next t2
    obtain ⟨i4, t4⟩ := drop_next t3
    refine ⟨_, rfl, rfl, _, rfl, iteT ?_⟩
    refine ⟨_, rfl, r, dr, _, rfl, hR2, no _, r, dr, l, ns, i + 1 + 1, p, rfl, hR2, hS2, i2, fun H3 hR3 u3 _ => ?_⟩
    have hS3 := u3.seq hR2 hS2
    refine ⟨_, rfl, r, dr, _, rfl, hR3, no _, r, dr, l, ns, i + 1 + 1 + 1, q, rfl, hR3, hS3, i3, fun H4 hR4 u4 _ => ?_⟩
    have hS4 := u4.seq hR3 hS3
    refine ⟨_, rfl, r, dr, _, rfl, hR4, no _, r, dr, l, ns, i + 1 + 1 + 1 + 1, a, rfl, hR4, hS4, i4, fun H5 hR5 u5 _ => ?_⟩
    have hd5 := ((hd2.but u3 hR2 n1 n2).but u4 hR3 n1 n2).but u5 hR4 n1 n2
    have hd5' := hd5
    obtain ⟨dx, v, hdd, _⟩ := hd5
    refine ⟨_, rfl, d, dx, _, rfl, hdd, dno _ (by decide +kernel), _, rfl, _, rfl, _, rfl, _, rfl, _, rfl, N, d, st, wy, k, p, q, a, rfl, hd5', fun b H6 h0 s6 hb => ?_⟩
    exact fin b H6 ((((u02.trans u3).trans u4).trans u5).free hR5 h0) hb (hd5'.same s6) ⟨dr, s6 _ _ hR5⟩ ((((u02.trans u3).trans u4).trans u5).same s6)
  | near _ _ x =>
    obtain ⟨i2, t2⟩ := drop_next t1
    refine ⟨_, rfl, rfl, _, rfl, iteF ?_⟩
    refine ⟨_, rfl, rfl, _, rfl, iteT ?_⟩
    have hd2' := hd2
    obtain ⟨dx, v, hdd, _⟩ := hd2
    refine ⟨_, rfl, d, dx, _, rfl, hdd, dno _ (by decide +kernel), _, rfl, _, rfl, _, rfl, r, dr, _, rfl, hR2, no _, r, dr, l, ns, i + 1 + 1, x, rfl, hR2, hS2, i2, fun H3 hR3 u3 _ => ?_⟩
    have hd3 := hd2'.but u3 hR2 n1 n2
    refine ⟨N, d, st, wy, k, x, rfl, hd3, fun b H6 h0 s6 hb => ?_⟩
    exact fin b H6 ((u02.trans u3).free hR3 h0) hb (hd3.same s6) ⟨dr, s6 _ _ hR3⟩ ((u02.trans u3).same s6)
  | piece _ _ x =>
    obtain ⟨i2, t2⟩ := drop_next t1
    refine ⟨_, rfl, rfl, _, rfl, iteF ?_⟩
    refine ⟨_, rfl, rfl, _, rfl, iteF ?_⟩
    refine ⟨_, rfl, rfl, _, rfl, iteT ?_⟩
    have hd2' := hd2
    obtain ⟨dx, v, hdd, _⟩ := hd2
    refine ⟨_, rfl, d, dx, _, rfl, hdd, dno _ (by decide +kernel), _, rfl, _, rfl, _, rfl, r, dr, _, rfl, hR2, no _, r, dr, l, ns, i + 1 + 1, x, rfl, hR2, hS2, i2, fun H3 hR3 u3 _ => ?_⟩
    have hd3 := hd2'.but u3 hR2 n1 n2
    refine ⟨N, d, st, wy, k, x, rfl, hd3, fun b H6 h0 s6 hb => ?_⟩
    exact fin b H6 ((u02.trans u3).free hR3 h0) hb (hd3.same s6) ⟨dr, s6 _ _ hR3⟩ ((u02.trans u3).same s6)
  | bending _ _ =>
    refine ⟨_, rfl, rfl, _, rfl, iteF ?_⟩
    refine ⟨_, rfl, rfl, _, rfl, iteF ?_⟩
    refine ⟨_, rfl, rfl, _, rfl, iteF ?_⟩
    refine ⟨_, rfl, rfl, _, rfl, iteT ?_⟩
    have hd2' := hd2
    obtain ⟨dx, v, hdd, _⟩ := hd2
    refine ⟨_, rfl, d, dx, _, rfl, hdd, dno _ (by decide +kernel), _, rfl, _, rfl, N, d, st, wy, k, rfl, hd2', fun b H6 h0 s6 hb => ?_⟩
    exact fin b H6 (u02.free hR2 h0) hb (hd2'.same s6) ⟨dr, s6 _ _ hR2⟩ (u02.same s6)
  | turns _ _ =>
    refine ⟨_, rfl, rfl, _, rfl, iteF ?_⟩
    refine ⟨_, rfl, rfl, _, rfl, iteF ?_⟩
    refine ⟨_, rfl, rfl, _, rfl, iteF ?_⟩
    refine ⟨_, rfl, rfl, _, rfl, iteF ?_⟩
    refine ⟨_, rfl, rfl, _, rfl, iteT ?_⟩
    have hd2' := hd2
    obtain ⟨dx, v, hdd, _⟩ := hd2
    refine ⟨_, rfl, d, dx, _, rfl, hdd, dno _ (by decide +kernel), _, rfl, _, rfl, N, d, st, wy, k, rfl, hd2', fun b H6 h0 s6 hb => ?_⟩
    exact fin b H6 (u02.free hR2 h0) hb (hd2'.same s6) ⟨dr, s6 _ _ hR2⟩ (u02.same s6)
  | top _ _ =>
    refine ⟨_, rfl, rfl, _, rfl, iteF ?_⟩
    refine ⟨_, rfl, rfl, _, rfl, iteF ?_⟩
    refine ⟨_, rfl, rfl, _, rfl, iteF ?_⟩
    refine ⟨_, rfl, rfl, _, rfl, iteF ?_⟩
    refine ⟨_, rfl, rfl, _, rfl, iteF ?_⟩
    refine ⟨_, rfl, rfl, _, rfl, iteT ?_⟩
    have hd2' := hd2
    obtain ⟨dx, v, hdd, _⟩ := hd2
    refine ⟨_, rfl, d, dx, _, rfl, hdd, dno _ (by decide +kernel), _, rfl, _, rfl, N, d, st, wy, k, rfl, hd2', fun b H6 h0 s6 hb => ?_⟩
    exact fin b H6 (u02.free hR2 h0) hb (hd2'.same s6) ⟨dr, s6 _ _ hR2⟩ (u02.same s6)
end
end PB

set_option Elab.async false
set_option linter.all false
set_option maxRecDepth 100000
set_option maxHeartbeats 4000000
namespace PB
open PySem PySem.Spec PyProof.Rows L2
open BM (Good tableOf CallIs)
theorem drop_row {ns x r : List Int} {i : Nat} (h : ns.drop i = (x.length : Int) :: (x ++ r)) : ns[i]? = some (x.length : Int) ∧ i + 1 + x.length ≤ ns.length ∧ (ns.drop (i + 1)).take x.length = x ∧ ns.drop (i + 1 + x.length) = r := by
  obtain ⟨h1, h2⟩ := drop_next h
  have hl : (ns.drop (i + 1)).length = x.length + r.length := by rw [h2, List.length_append]
  rw [List.length_drop] at hl
  have hi : i < ns.length := (List.getElem?_eq_some_iff.mp h1).1
  refine ⟨h1, by omega, by rw [h2, List.take_left], ?_⟩
  rw [← List.drop_drop, h2, List.drop_left]
/-- the calls that answer_line_call knows -/
def okC (cc : LoftBattenSeed.Call) : Prop := (∃ x z y, cc = .make x z y) ∨ ∃ n l, LineIs n l cc
section
variable {P : Program} {w : World} {K : PySem.W.Frag} {mg : Str → Option Value} {base : Heap}
theorem okC_all {c : List (List Int)} {cc : LoftBattenSeed.Call} (h : CallIs c cc) : okC cc := by
  cases h with
  | make x z y => exact .inl ⟨x, z, y, rfl⟩
  | at_ w k p q a => exact .inr ⟨_, _, .at_ w k p q a⟩
  | near w k x => exact .inr ⟨_, _, .near w k x⟩
  | piece w k i => exact .inr ⟨_, _, .piece w k i⟩
  | bending w k => exact .inr ⟨_, _, .bending w k⟩
  | turns w k => exact .inr ⟨_, _, .turns w k⟩
  | top w k => exact .inr ⟨_, _, .top w k⟩
theorem line_of {c : List (List Int)} {cc : LoftBattenSeed.Call} (h : CallIs c cc) (ok : okC cc) : (∃ x z y, c = [[1], x, z, y] ∧ cc = .make x z y) ∨ ∃ n l, PyFlat.put1 c = n :: l ∧ LineIs n l cc ∧ n ≠ 1 := by
  cases h with
  | make x z y => exact .inl ⟨x, z, y, rfl, rfl⟩
  | at_ w k p q a => exact .inr ⟨_, _, rfl, .at_ w k p q a, by decide⟩
  | near w k x => exact .inr ⟨_, _, rfl, .near w k x, by decide⟩
  | piece w k i => exact .inr ⟨_, _, rfl, .piece w k i, by decide⟩
  | bending w k => exact .inr ⟨_, _, rfl, .bending w k, by decide⟩
  | turns w k => exact .inr ⟨_, _, rfl, .turns w k, by decide⟩
  | top w k => exact .inr ⟨_, _, rfl, .top w k, by decide⟩
theorem scCall : FnScope ["desk", "reader", "call", "places", "heights", "breadths"] ["desk", "reader"] (defScope sCall) := ⟨rfl, rfl, rfl, by decide +kernel, rfl, by decide +kernel, by decide +kernel⟩
theorem ok_call {f g C CT CR : Addr} {fd gd : FuncData} (F : Fun K "answer_call" "answer_call" sCall f fd) (D : AnK P w K mg base C CT CR) (G : FnOk P w K mg base CX0 7 g gd ["desk", "call", "reader"] (spLine K C CT CR)) (bG : Binds K gd ["desk", "call", "reader"] []) (mG : mg "answer_line_call" = some (.ref g)) (kG : PySem.W.keepIn K (.ref g) = true)
    (gM : Glo mg "MAKE" 1) : FnOk P w K mg base CX0 8 f fd ["desk", "reader"] (spCall K C CT CR okC) := by
  obtain ⟨T, R, n1, n2, ⟨x1, d1, G1, b1, m1⟩, ⟨x2, d2, G2, b2, m2⟩, ⟨x3, d3, G3, b3, m3⟩, _⟩ := D
  refine F.ok scCall (fun vs H Q E h => ?_) (fun cdv A outer s H vs Q E hr h => ?_)
  · obtain ⟨N, d, r, l, st, ns, rest, i, c, cc, rfl, _⟩ := h; rfl
  obtain ⟨N, d, r, l, st, ns, rest, i, c, cc, rfl, hc, hok, hN, hd, ⟨dr, hR⟩, hS, hlen, hn, fin⟩ := h
  have hr1 : Room 1 _ := hr.mono (by decide)
  have hr2 : Room 2 _ := hr.mono (by decide)
  have hr3 : Room 3 _ := hr.mono (by decide)
  refine ⟨_, pss_cons (ps_set (i := 2) scCall.nd rfl (Or.inl rfl) (pe_meth0 (pv 1) R.cl m1 G1 hr1 b1 .nil pass0))
    (pss_cons (ps_if (pt_cmpR op_eq (pv 2) (pe_glo gM) (nomark _))
      (pss_cons (ps_set (i := 3) scCall.nd rfl (Or.inl rfl) (pe_meth0 (pv 1) R.cl m2 G2 hr2 b2 .nil pass0))
      (pss_cons (ps_set (i := 4) scCall.nd rfl (Or.inl rfl) (pe_meth0 (pv 1) R.cl m2 G2 hr2 b2 .nil pass0))
      (pss_cons (ps_set (i := 5) scCall.nd rfl (Or.inl rfl) (pe_meth0 (pv 1) R.cl m2 G2 hr2 b2 .nil pass0))
      (pss_one (ps_ret (pe_meth (pv 0) T.cl m3 G3 hr3 b3 .nil pass0 (pa_cons (pv 3) (pa_cons (pv 4) (pa_cons (pv 5) pa_nil))))))))) pss_nil)
    (pss_one (ps_ret (pe_call G hr rfl mG kG bG .nil pass0 (pa_cons (pv 0) (pa_cons (pv 2) (pa_cons (pv 1) pa_nil))))))), ?_⟩
  have no : ∀ (j : Nat) {m : Str}, ¬ m = "calls" → ¬ m = "spot" → (rdF l (j : Int)).lookup m = none := fun j _ h1 h2 => rd_no _ _ h1 h2
  rcases line_of hc hok with ⟨x, z, y, rfl, rfl⟩ | ⟨n, args, e1, hL, hn1⟩
  · have hn : ns.drop i = 1 :: ((x.length : Int) :: (x ++ ((z.length : Int) :: (z ++ ((y.length : Int) :: (y ++ rest)))))) := by
      rw [hn]
      show (1 :: (((x.length : Int) :: x) ++ (((z.length : Int) :: z) ++ (((y.length : Int) :: y) ++ [])))) ++ rest = _
      simp
    obtain ⟨i0, t0⟩ := drop_next hn
    obtain ⟨i1, l1, e1, t1⟩ := drop_row t0
    obtain ⟨i2, l2, e2, t2⟩ := drop_row t1
    obtain ⟨i3, l3, e3, t3⟩ := drop_row t2
    refine ⟨_, rfl, r, dr, _, rfl, hR, no _ (by decide +kernel) (by decide +kernel), r, dr, l, ns, i, 1, rfl, hR, hS, i0, fun H1 hR1 u1 _ => ?_⟩
    have hS1 := u1.seq hR hS
    refine ⟨_, rfl, rfl, _, rfl, iteT ?_⟩
    refine ⟨_, rfl, r, dr, _, rfl, hR1, no _ (by decide +kernel) (by decide +kernel), r, dr, l, ns, i + 1, x.length, rfl, hR1, hS1, i1, l1, fun a H2 hR2 u2 a0 ha => ?_⟩
    have hS2 := u2.seq hR1 hS1
    rw [e1] at ha
    refine ⟨_, rfl, r, dr, _, rfl, hR2, no _ (by decide +kernel) (by decide +kernel), r, dr, l, ns, _, z.length, rfl, hR2, hS2, i2, l2, fun b H3 hR3 u3 b0 hb => ?_⟩
    have hS3 := u3.seq hR2 hS2
    rw [e2] at hb
    refine ⟨_, rfl, r, dr, _, rfl, hR3, no _ (by decide +kernel) (by decide +kernel), r, dr, l, ns, _, y.length, rfl, hR3, hS3, i3, l3, fun c H4 hR4 u4 c0 hc' => ?_⟩
    rw [e3] at hc'
    have hd4 := (((hd.but u1 hR n1 n2).but u2 hR1 n1 n2).but u3 hR2 n1 n2).but u4 hR3 n1 n2
    have hd4' := hd4
    obtain ⟨dx, v, hdd, _⟩ := hd4
    have ha4 : SqL K H4 a (x.map V.int) := u4.seq hR3 (u3.seq hR2 (SqL.of ha))
    have hb4 : SqL K H4 b (z.map V.int) := u4.seq hR3 (SqL.of hb)
    refine ⟨_, rfl, d, dx, _, rfl, hdd, dk_no _ (by decide +kernel), _, rfl, _, rfl, _, rfl, N, d, a, b, c, st, x, z, y, rfl, ⟨hN _ (u1.free hR1 a0), hN _ ((u1.trans u2).free hR2 b0), hN _ (((u1.trans u2).trans u3).free hR3 c0)⟩, hd4', ha4, hb4, SqL.of hc', by omega, by omega, fun q H5 q0 hq hd5 u5 => ?_⟩
    have hrd : r ≠ d := ne_of hR4 hdd (by intro q; injection q with q; exact n1 q.symm)
    refine fin q H5 ((((u1.trans u2).trans u3).trans u4).free hR4 q0) hq hd5 ⟨dr, ?_⟩ (fun b o e hb1 hb2 => u5 b o ((((u1.trans u2).trans u3).trans u4) b o e hb2) hb1)
    have := u5 _ _ hR4 hrd
    have el : i + (PyFlat.put1 [[1], x, z, y]).length = i + 1 + 1 + x.length + 1 + z.length + 1 + y.length := by
      show i + (1 :: (((x.length : Int) :: x) ++ (((z.length : Int) :: z) ++ (((y.length : Int) :: y) ++ [])))).length = _
      simp only [List.length_cons, List.length_append, List.length_nil]
      omega
    rw [el]
    exact this
  · rw [e1] at hn fin
    obtain ⟨i0, t0⟩ := drop_next (show ns.drop i = n :: (args ++ rest) from hn)
    refine ⟨_, rfl, r, dr, _, rfl, hR, no _ (by decide +kernel) (by decide +kernel), r, dr, l, ns, i, n, rfl, hR, hS, i0, fun H1 hR1 u1 _ => ?_⟩
    have hS1 := u1.seq hR hS
    refine ⟨_, rfl, rfl, _, rfl, ite2 (fun z => ?_) (fun z => ?_)⟩
    · have z' : V.int n = V.int 1 := of_decide_eq_true z
      injection z' with z'
      exact absurd z' hn1
    refine ⟨_, rfl, _, rfl, _, rfl, N, d, r, l, st, n, ns, args, rest, i + 1, cc, rfl, hL, hd.but u1 hR n1 n2, ⟨dr, hR1⟩, hS1, t0, fun a H2 a0 ha hd2 hr2 u2 => ?_⟩
    rw [line_state hL st] at fin
    refine fin a H2 (u1.free hR1 a0) ha hd2 ?_ (fun b o e _ hb2 => (u1.trans u2) b o e hb2)
    rw [List.length_cons, show i + (args.length + 1) = i + 1 + args.length by omega]
    exact hr2
/-! ### answers -/
theorem scAns : FnScope ["calls", "desk", "reader", "told", "answer"] ["calls"] (defScope sAns) := ⟨rfl, rfl, rfl, by decide +kernel, rfl, by decide +kernel, by decide +kernel⟩
theorem ok_ans {f g e1 e2 e3 C CT CR : Addr} {fd gd dd1 dd2 dd3 : FuncData} {ok : LoftBattenSeed.Call → Prop} (F : Fun K "answers" "answers" sAns f fd) (D : AnK P w K mg base C CT CR)
    (G : FnOk P w K mg base CX0 8 g gd ["desk", "reader"] (spCall K C CT CR ok)) (bG : Binds K gd ["desk", "reader"] []) (mG : mg "answer_call" = some (.ref g)) (kG : PySem.W.keepIn K (.ref g) = true)
    (M1 : Mk K C e1) (F1 : Fun K "__init__" "Desk.__init__" sDkInit e1 dd1) (b1 : Binds K dd1 ["self"] []) (m1 : mg "Desk" = some (.ref C))
    (M2 : Mk K CR e2) (F2 : Fun K "__init__" "Reader.__init__" sRdInit e2 dd2) (b2 : Binds K dd2 ["self", "calls"] []) (m2 : mg "Reader" = some (.ref CR))
    (F3 : Fun K "ended" "Reader.ended" sRdEnd e3 dd3) (b3 : Binds K dd3 ["self"] []) (m3 : Meth K CR "ended" e3) (ml : mg "len" = none) : FnOk P w K mg base CX0 9 f fd ["calls"] (spAns K ok) := by
  obtain ⟨T, R, n1, n2, _⟩ := D
  have I1 : FnOk P w K mg base CX0 1 e1 dd1 ["self"] (spDkInit C) := ok_dkInit F1 T
  have I2 : FnOk P w K mg base CX0 1 e2 dd2 ["self", "calls"] (spRdInit CR) := ok_rdInit F2 R
  have I3 : FnOk P w K mg base CX0 1 e3 dd3 ["self"] (spRdEnd CR K) := ok_rdEnd F3 R ml
  refine F.ok scAns (fun vs H Q E h => ?_) (fun cdv A outer s H vs Q E hr h => ?_)
  · obtain ⟨l, cs, rfl, _⟩ := h; rfl
  obtain ⟨l, cs, rfl, hS, hlen, hcs, hc1, fin⟩ := h
  have hr1 : Room 1 _ := hr.mono (by decide)
  have hr2 : Room (1 + 1) _ := hr.mono (by decide)
  refine ⟨_, pss_cons (ps_set (i := 1) scAns.nd rfl (Or.inl rfl) (pe_make0 M1 I1 hr2 rfl m1 b1 .nil pass0))
    (pss_cons (ps_set (i := 2) scAns.nd rfl (Or.inl rfl) (pe_make M2 I2 hr2 rfl m2 b2 .nil pass0 (pa_cons (pv 0) pa_nil)))
    (pss_cons (ps_set (i := 3) scAns.nd rfl (Or.inl rfl) (pe_lst pa_nil))
    (pss_cons (ps_while PassesOwn.never (pt_not (pt_val (pe_meth0 (pv 2) R.cl m3 I3 hr1 b3 .nil pass0)))
      (pss_cons (ps_set (i := 4) scAns.nd rfl (Or.inl rfl) (pe_call G hr rfl mG kG bG .nil pass0 (pa_cons (pv 1) (pa_cons (pv 2) pa_nil))))
      (pss_cons (ps_expr (pe_bm PySem.F.plainAttrs_list PySem.F.slot_list_append PySem.F.type_list_append mt_append (pv 3) (pa_cons (pe_callB call_len_seq rfl ml PySem.boot_len (pa_cons (pv 4) pa_nil)) pa_nil)))
      (pss_one (ps_expr (pe_bm PySem.F.plainAttrs_list PySem.F.slot_list_extend PySem.F.type_list_extend mt_extend (pv 3) (pa_cons (pv 4) pa_nil)))))))
    (pss_one (ps_ret (pv 3)))))), ?_⟩
  intro d dx hd hdx hne
  refine ⟨d, dx, rfl, upd_same, fun H1 hd1 u1 => ⟨rfl, ?_⟩⟩
  have s1 : Same H H1 := Same.made hd hdx u1
  refine ⟨_, rfl, ?_⟩
  intro r dr hr' hdr hner
  refine ⟨r, dr, l, rfl, upd_same, fun H2 hR2 u2 => ⟨rfl, ?_⟩⟩
  have s2 : Same H1 H2 := Same.made hr' hdr u2
  refine ⟨by show 0 ≤ sizeLine; decide, fun t ht => ?_⟩
  have s3 : Same H2 (upd H2 t (.lst [])) := same_new ht _
  have s13 := s2.trans s3
  have keep : ∀ {H' H'' : Hp}, But t H' H'' → SqL K H' l ((PyFlat.put cs).map V.int) → SqL K H'' l ((PyFlat.put cs).map V.int) := by
    rcases hS with (h | ⟨o, h⟩) | h
    · have hlt : l ≠ t := ne_of_none ((s1.trans s2) _ _ h) ht
      exact fun {H1 H2} u z => But.seqN u hlt z
    · have hlt : l ≠ t := ne_of_none ((s1.trans s2) _ _ h) ht
      exact fun {H1 H2} u z => But.seqN u hlt z
    · exact fun {H1 H2} _ _ => .inr h
  have no : ∀ (j : Nat) {m : Str}, ¬ m = "calls" → ¬ m = "spot" → (rdF l (j : Int)).lookup m = none := fun j _ h1 h2 => rd_no _ _ h1 h2
  refine ⟨fun m σ H' => ∃ (v4 : Option V) (cs' : List (List (List Int))) (st : LoftBattenSeed.State) (i : Nat) (out : List Int), m = cs'.length ∧ σ = [some (.ref l), some (.ref d), some (.ref r), some (.ref t), v4] ∧
      DkAt K C CT (fun a => a ≠ t) H' d st ∧ RdAt CR H' r l i ∧ SqL K H' l ((PyFlat.put cs).map V.int) ∧ H' t = some (.lst (out.map V.int)) ∧ (PyFlat.put cs).drop i = PyFlat.put cs' ∧ (∀ c ∈ cs', ∃ cc, CallIs c cc ∧ ok cc) ∧ out.length + 10 * cs'.length ≤ 10000 ∧
      PyFlat.told (PyFlat.played BattenNeutral.step BattenNeutral.start cs) = out ++ PyFlat.told (PyFlat.played BattenNeutral.step st cs'),
    ⟨cs.length, none, cs, none, 0, [], rfl, rfl, ⟨dx, .non, s13 _ _ hd1, .inl ⟨rfl, rfl⟩⟩, ⟨dr, s3 _ _ hR2⟩, (s1.trans s13).seq hS, upd_same, rfl, hcs, by simp only [List.length_nil]; omega, rfl⟩, ?_⟩
  rintro m σ H' ⟨v4, cs', st, i, out, rfl, rfl, hD, ⟨ry, hR⟩, hS', hT, hdrop, hok, hsz, htold⟩
  refine ⟨_, rfl, r, ry, _, rfl, hR, no _ (by decide +kernel) (by decide +kernel), r, ry, l, _, _, rfl, hR, hS', _, rfl, ?_⟩
  cases cs' with
  | nil =>
    have hi : (PyFlat.put cs).length ≤ i := by
      have := congrArg List.length hdrop
      rw [List.length_drop] at this
      have e0 : (PyFlat.put []).length = 0 := rfl
      omega
    rw [decide_eq_true (show ((PyFlat.put cs).length : Int) ≤ (i : Int) by omega)]
    refine iteF ⟨_, rfl, fin t H' ?_⟩
    rw [hT, htold]
    show some (HO.lst _) = some (HO.lst ((out ++ []).map V.int))
    rw [List.append_nil]
  | cons c cs' =>
    obtain ⟨cc, hcc, hokc⟩ := hok c (List.mem_cons.mpr (.inl rfl))
    obtain ⟨n0, r0, e0⟩ := BM.put1_ne hcc
    have hd1' : (PyFlat.put cs).drop i = PyFlat.put1 c ++ PyFlat.put cs' := hdrop
    have hi : i < (PyFlat.put cs).length := by
      refine Nat.lt_of_not_le fun z => ?_
      rw [List.drop_eq_nil_of_le z, e0] at hd1'
      cases hd1'
    rw [decide_eq_false (show ¬ ((PyFlat.put cs).length : Int) ≤ (i : Int) by omega)]
    refine iteT ⟨fun σ' H'' => ∃ (v4 : Option V) (st : LoftBattenSeed.State) (i : Nat) (out : List Int), σ' = [some (.ref l), some (.ref d), some (.ref r), some (.ref t), v4] ∧
      DkAt K C CT (fun a => a ≠ t) H'' d st ∧ RdAt CR H'' r l i ∧ SqL K H'' l ((PyFlat.put cs).map V.int) ∧ H'' t = some (.lst (out.map V.int)) ∧ (PyFlat.put cs).drop i = PyFlat.put cs' ∧ (∀ c ∈ cs', ∃ cc, CallIs c cc ∧ ok cc) ∧ out.length + 10 * cs'.length ≤ 10000 ∧
      PyFlat.told (PyFlat.played BattenNeutral.step BattenNeutral.start cs) = out ++ PyFlat.told (PyFlat.played BattenNeutral.step st cs'),
      fun σ' H'' ⟨v4, st, i, out, h⟩ => ⟨cs'.length, by simp, v4, cs', st, i, out, rfl, h⟩, ?_⟩
    obtain ⟨dd, vv, hdd, _⟩ := hD
    have hD' : DkAt K C CT (fun a => a ≠ t) H' d st := ⟨dd, vv, hdd, by assumption⟩
    refine ⟨_, rfl, _, rfl, fun a => a ≠ t, d, r, l, st, PyFlat.put cs, PyFlat.put cs', i, c, cc, rfl, hcc, hokc, (fun a ha z => by rw [z, hT] at ha; cases ha), hD', ⟨ry, hR⟩, hS', hlen, hd1', fun a H3 a0 ha hD3 hR3 u3 => ?_⟩
    have htd : t ≠ d := ne_of hT hdd (by intro z; cases z)
    have htr : t ≠ r := ne_of hT hR (by intro z; cases z)
    have hT3 := u3 _ _ hT htd htr
    have hS3 : SqL K H3 l ((PyFlat.put cs).map V.int) := by
      rcases hS' with (h | ⟨o, h⟩) | h
      · exact .inl (.inl (u3 _ _ h (ne_of h hdd (by intro q; cases q)) (ne_of h hR (by intro q; cases q))))
      · exact .inl (.inr ⟨o, u3 _ _ h (ne_of h hdd (by intro q; cases q)) (ne_of h hR (by intro q; cases q))⟩)
      · exact .inr h
    have hal := BM.ans_len st cc
    have hol : (out.map V.int).length ≤ 10000 := by rw [List.length_map]; omega
    have hat : a ≠ t := fun z => by rw [z, hT] at a0; cases a0
    have hall : ((LoftBattenSeed.step st cc).2.map V.int).length ≤ 9 := by rw [List.length_map]; exact hal
    refine ⟨_, rfl, .inl ⟨rfl, _, SqL.of hT3⟩, _, rfl, a, _, rfl, .inl (SqL.of ha), t, _, _, rfl, rfl, hT3, Nat.lt_of_le_of_lt hol (by decide), ?_⟩
    have ha4 : ∀ x, (upd H3 t x) a = some (ansV (LoftBattenSeed.step st cc).2) := fun x => by rw [upd_ne hat]; exact ha
    refine ⟨_, rfl, .inl ⟨rfl, _, SqL.of upd_same⟩, _, rfl, t, a, _, _, rfl, rfl, upd_same, ha4 _, ?_, ?_⟩
    · rw [List.length_append]
      refine Nat.le_trans (Nat.add_le_add (Nat.add_le_add_right hol 1) hall) (by decide)
    have ut : But t H3 (upd (upd H3 t (.lst (out.map V.int ++ [.int (((LoftBattenSeed.step st cc).2.map V.int).length : Nat)]))) t (.lst (out.map V.int ++ [.int (((LoftBattenSeed.step st cc).2.map V.int).length : Nat)] ++ (LoftBattenSeed.step st cc).2.map V.int))) := But.upd.trans But.upd
    obtain ⟨ry3, hR3'⟩ := hR3
    have hl1 : ((LoftBattenSeed.step st cc).2.map V.int).length = (LoftBattenSeed.step st cc).2.length := List.length_map _
    refine ⟨_, (LoftBattenSeed.step st cc).1, _, out ++ ((LoftBattenSeed.step st cc).2.length : Int) :: (LoftBattenSeed.step st cc).2, rfl, hD3.list ut hT3, ⟨ry3, ut _ _ hR3' (ne_of hR3' hT3 (by intro q; cases q))⟩, keep ut hS3, ?_, ?_, fun c hc => hok c (List.mem_cons.mpr (.inr hc)), ?_, ?_⟩
    · rw [upd_same, hl1]
      simp
    · rw [← List.drop_drop, hd1', List.drop_left]
    · rw [List.length_append, List.length_cons]
      simp only [List.length_cons] at hsz
      omega
    · rw [htold]
      show out ++ (((BattenNeutral.step st c).2.length : Int) :: (BattenNeutral.step st c).2 ++ PyFlat.told (PyFlat.played BattenNeutral.step (BattenNeutral.step st c).1 cs')) = _
      rw [BM.step_is hcc]
      simp
end
end PB

set_option Elab.async false
set_option linter.all false
set_option maxRecDepth 100000
set_option maxHeartbeats 4000000
namespace PB
open PySem PySem.Spec PyProof.Rows L2
open PySem.W (Codec)
section
variable {K : PySem.W.Frag} {h : Heap} {mg : Str → Option Value}
/-- a def of the top -/
def FnG (K : PySem.W.Frag) (mg : Str → Option Value) (x : Str) (st : Stmt) (ps : List Str) : Prop := ∃ f fd, mg x = some (.ref f) ∧ Fun K x x st f fd ∧ Binds K fd ps []
/-- a method of the class at C -/
def MtG (K : PySem.W.Frag) (C : Addr) (m qual : Str) (st : Stmt) (ps : List Str) : Prop := ∃ f fd, Meth K C m f ∧ Fun K m qual st f fd ∧ Binds K fd ps []
def InG (K : PySem.W.Frag) (C : Addr) (qual : Str) (st : Stmt) (ps : List Str) : Prop := ∃ f fd, Mk K C f ∧ Fun K "__init__" qual st f fd ∧ Binds K fd ps []
theorem fg_product_of (X : K.In h) (G : h.Ns mainGlobals mg) {f : Addr} {od an : Option Addr} {sl : Array (Option Value)} {oc kV dc pm cd ct : Value}
    (a : PySem.W.nsIn K mainGlobals "product_of" = some (some (.ref f))) (l : K.lookup f = some ⟨oc, od, .func (PySem.W.fnOf "product_of" "product_of" (defArgs sProd) (defBody sProd) (defScope sProd) .none kV dc pm an cd ct), sl⟩) (c : PySem.W.codeIn K cd "product_of" = true) (k : PySem.W.keepIn K (.ref f) = true) : FnG K mg "product_of" sProd ["numbers"] := by
  have F := fun_mk (st := sProd) l c k
  exact ⟨f, _, PySem.W.mg_of X G a, F, F.binds (ps := ["numbers"]) fun _ _ _ _ _ _ us hl => match us, hl with | [_], _ => rfl⟩
theorem fg_kinks_of (X : K.In h) (G : h.Ns mainGlobals mg) {f : Addr} {od an : Option Addr} {sl : Array (Option Value)} {oc kV dc pm cd ct : Value}
    (a : PySem.W.nsIn K mainGlobals "kinks_of" = some (some (.ref f))) (l : K.lookup f = some ⟨oc, od, .func (PySem.W.fnOf "kinks_of" "kinks_of" (defArgs sKinks) (defBody sKinks) (defScope sKinks) .none kV dc pm an cd ct), sl⟩) (c : PySem.W.codeIn K cd "kinks_of" = true) (k : PySem.W.keepIn K (.ref f) = true) : FnG K mg "kinks_of" sKinks ["gaps", "ys", "product"] := by
  have F := fun_mk (st := sKinks) l c k
  exact ⟨f, _, PySem.W.mg_of X G a, F, F.binds (ps := ["gaps", "ys", "product"]) fun _ _ _ _ _ _ us hl => match us, hl with | [_, _, _], _ => rfl⟩
theorem fg_eliminate (X : K.In h) (G : h.Ns mainGlobals mg) {f : Addr} {od an : Option Addr} {sl : Array (Option Value)} {oc kV dc pm cd ct : Value}
    (a : PySem.W.nsIn K mainGlobals "eliminate" = some (some (.ref f))) (l : K.lookup f = some ⟨oc, od, .func (PySem.W.fnOf "eliminate" "eliminate" (defArgs sElim) (defBody sElim) (defScope sElim) .none kV dc pm an cd ct), sl⟩) (c : PySem.W.codeIn K cd "eliminate" = true) (k : PySem.W.keepIn K (.ref f) = true) : FnG K mg "eliminate" sElim ["gaps", "kinks"] := by
  have F := fun_mk (st := sElim) l c k
  exact ⟨f, _, PySem.W.mg_of X G a, F, F.binds (ps := ["gaps", "kinks"]) fun _ _ _ _ _ _ us hl => match us, hl with | [_, _], _ => rfl⟩
theorem fg_sixths_of (X : K.In h) (G : h.Ns mainGlobals mg) {f : Addr} {od an : Option Addr} {sl : Array (Option Value)} {oc kV dc pm cd ct : Value}
    (a : PySem.W.nsIn K mainGlobals "sixths_of" = some (some (.ref f))) (l : K.lookup f = some ⟨oc, od, .func (PySem.W.fnOf "sixths_of" "sixths_of" (defArgs sSix) (defBody sSix) (defScope sSix) .none kV dc pm an cd ct), sl⟩) (c : PySem.W.codeIn K cd "sixths_of" = true) (k : PySem.W.keepIn K (.ref f) = true) : FnG K mg "sixths_of" sSix ["gaps", "kinks"] := by
  have F := fun_mk (st := sSix) l c k
  exact ⟨f, _, PySem.W.mg_of X G a, F, F.binds (ps := ["gaps", "kinks"]) fun _ _ _ _ _ _ us hl => match us, hl with | [_, _], _ => rfl⟩
theorem fg_common_divisor (X : K.In h) (G : h.Ns mainGlobals mg) {f : Addr} {od an : Option Addr} {sl : Array (Option Value)} {oc kV dc pm cd ct : Value}
    (a : PySem.W.nsIn K mainGlobals "common_divisor" = some (some (.ref f))) (l : K.lookup f = some ⟨oc, od, .func (PySem.W.fnOf "common_divisor" "common_divisor" (defArgs sGcd) (defBody sGcd) (defScope sGcd) .none kV dc pm an cd ct), sl⟩) (c : PySem.W.codeIn K cd "common_divisor" = true) (k : PySem.W.keepIn K (.ref f) = true) : FnG K mg "common_divisor" sGcd ["one", "other"] := by
  have F := fun_mk (st := sGcd) l c k
  exact ⟨f, _, PySem.W.mg_of X G a, F, F.binds (ps := ["one", "other"]) fun _ _ _ _ _ _ us hl => match us, hl with | [_, _], _ => rfl⟩
theorem fg_lowest (X : K.In h) (G : h.Ns mainGlobals mg) {f : Addr} {od an : Option Addr} {sl : Array (Option Value)} {oc kV dc pm cd ct : Value}
    (a : PySem.W.nsIn K mainGlobals "lowest" = some (some (.ref f))) (l : K.lookup f = some ⟨oc, od, .func (PySem.W.fnOf "lowest" "lowest" (defArgs sLow) (defBody sLow) (defScope sLow) .none kV dc pm an cd ct), sl⟩) (c : PySem.W.codeIn K cd "lowest" = true) (k : PySem.W.keepIn K (.ref f) = true) : FnG K mg "lowest" sLow ["above", "below"] := by
  have F := fun_mk (st := sLow) l c k
  exact ⟨f, _, PySem.W.mg_of X G a, F, F.binds (ps := ["above", "below"]) fun _ _ _ _ _ _ us hl => match us, hl with | [_, _], _ => rfl⟩
theorem fg_ceiling (X : K.In h) (G : h.Ns mainGlobals mg) {f : Addr} {od an : Option Addr} {sl : Array (Option Value)} {oc kV dc pm cd ct : Value}
    (a : PySem.W.nsIn K mainGlobals "ceiling" = some (some (.ref f))) (l : K.lookup f = some ⟨oc, od, .func (PySem.W.fnOf "ceiling" "ceiling" (defArgs sCeil) (defBody sCeil) (defScope sCeil) .none kV dc pm an cd ct), sl⟩) (c : PySem.W.codeIn K cd "ceiling" = true) (k : PySem.W.keepIn K (.ref f) = true) : FnG K mg "ceiling" sCeil ["above", "below"] := by
  have F := fun_mk (st := sCeil) l c k
  exact ⟨f, _, PySem.W.mg_of X G a, F, F.binds (ps := ["above", "below"]) fun _ _ _ _ _ _ us hl => match us, hl with | [_, _], _ => rfl⟩
theorem fg_nearest (X : K.In h) (G : h.Ns mainGlobals mg) {f : Addr} {od an : Option Addr} {sl : Array (Option Value)} {oc kV dc pm cd ct : Value}
    (a : PySem.W.nsIn K mainGlobals "nearest" = some (some (.ref f))) (l : K.lookup f = some ⟨oc, od, .func (PySem.W.fnOf "nearest" "nearest" (defArgs sNear) (defBody sNear) (defScope sNear) .none kV dc pm an cd ct), sl⟩) (c : PySem.W.codeIn K cd "nearest" = true) (k : PySem.W.keepIn K (.ref f) = true) : FnG K mg "nearest" sNear ["above", "below"] := by
  have F := fun_mk (st := sNear) l c k
  exact ⟨f, _, PySem.W.mg_of X G a, F, F.binds (ps := ["above", "below"]) fun _ _ _ _ _ _ us hl => match us, hl with | [_, _], _ => rfl⟩
theorem fg_signed_square (X : K.In h) (G : h.Ns mainGlobals mg) {f : Addr} {od an : Option Addr} {sl : Array (Option Value)} {oc kV dc pm cd ct : Value}
    (a : PySem.W.nsIn K mainGlobals "signed_square" = some (some (.ref f))) (l : K.lookup f = some ⟨oc, od, .func (PySem.W.fnOf "signed_square" "signed_square" (defArgs sSq) (defBody sSq) (defScope sSq) .none kV dc pm an cd ct), sl⟩) (c : PySem.W.codeIn K cd "signed_square" = true) (k : PySem.W.keepIn K (.ref f) = true) : FnG K mg "signed_square" sSq ["number"] := by
  have F := fun_mk (st := sSq) l c k
  exact ⟨f, _, PySem.W.mg_of X G a, F, F.binds (ps := ["number"]) fun _ _ _ _ _ _ us hl => match us, hl with | [_], _ => rfl⟩
theorem fg_root_ceiling (X : K.In h) (G : h.Ns mainGlobals mg) {f : Addr} {od an : Option Addr} {sl : Array (Option Value)} {oc kV dc pm cd ct : Value}
    (a : PySem.W.nsIn K mainGlobals "root_ceiling" = some (some (.ref f))) (l : K.lookup f = some ⟨oc, od, .func (PySem.W.fnOf "root_ceiling" "root_ceiling" (defArgs sRoot) (defBody sRoot) (defScope sRoot) .none kV dc pm an cd ct), sl⟩) (c : PySem.W.codeIn K cd "root_ceiling" = true) (k : PySem.W.keepIn K (.ref f) = true) : FnG K mg "root_ceiling" sRoot ["number"] := by
  have F := fun_mk (st := sRoot) l c k
  exact ⟨f, _, PySem.W.mg_of X G a, F, F.binds (ps := ["number"]) fun _ _ _ _ _ _ us hl => match us, hl with | [_], _ => rfl⟩
theorem fg_has_crest (X : K.In h) (G : h.Ns mainGlobals mg) {f : Addr} {od an : Option Addr} {sl : Array (Option Value)} {oc kV dc pm cd ct : Value}
    (a : PySem.W.nsIn K mainGlobals "has_crest" = some (some (.ref f))) (l : K.lookup f = some ⟨oc, od, .func (PySem.W.fnOf "has_crest" "has_crest" (defArgs sHas) (defBody sHas) (defScope sHas) .none kV dc pm an cd ct), sl⟩) (c : PySem.W.codeIn K cd "has_crest" = true) (k : PySem.W.keepIn K (.ref f) = true) : FnG K mg "has_crest" sHas ["cubic", "gap"] := by
  have F := fun_mk (st := sHas) l c k
  exact ⟨f, _, PySem.W.mg_of X G a, F, F.binds (ps := ["cubic", "gap"]) fun _ _ _ _ _ _ us hl => match us, hl with | [_, _], _ => rfl⟩
theorem fg_crest_ceiling (X : K.In h) (G : h.Ns mainGlobals mg) {f : Addr} {od an : Option Addr} {sl : Array (Option Value)} {oc kV dc pm cd ct : Value}
    (a : PySem.W.nsIn K mainGlobals "crest_ceiling" = some (some (.ref f))) (l : K.lookup f = some ⟨oc, od, .func (PySem.W.fnOf "crest_ceiling" "crest_ceiling" (defArgs sCrest) (defBody sCrest) (defScope sCrest) .none kV dc pm an cd ct), sl⟩) (c : PySem.W.codeIn K cd "crest_ceiling" = true) (k : PySem.W.keepIn K (.ref f) = true) : FnG K mg "crest_ceiling" sCrest ["cubic"] := by
  have F := fun_mk (st := sCrest) l c k
  exact ⟨f, _, PySem.W.mg_of X G a, F, F.binds (ps := ["cubic"]) fun _ _ _ _ _ _ us hl => match us, hl with | [_], _ => rfl⟩
theorem fg_first_not_rising (X : K.In h) (G : h.Ns mainGlobals mg) {f : Addr} {od an : Option Addr} {sl : Array (Option Value)} {oc kV dc pm cd ct : Value}
    (a : PySem.W.nsIn K mainGlobals "first_not_rising" = some (some (.ref f))) (l : K.lookup f = some ⟨oc, od, .func (PySem.W.fnOf "first_not_rising" "first_not_rising" (defArgs sFnr) (defBody sFnr) (defScope sFnr) .none kV dc pm an cd ct), sl⟩) (c : PySem.W.codeIn K cd "first_not_rising" = true) (k : PySem.W.keepIn K (.ref f) = true) : FnG K mg "first_not_rising" sFnr ["numbers", "least"] := by
  have F := fun_mk (st := sFnr) l c k
  exact ⟨f, _, PySem.W.mg_of X G a, F, F.binds (ps := ["numbers", "least"]) fun _ _ _ _ _ _ us hl => match us, hl with | [_, _], _ => rfl⟩
theorem fg_first_no_breadth (X : K.In h) (G : h.Ns mainGlobals mg) {f : Addr} {od an : Option Addr} {sl : Array (Option Value)} {oc kV dc pm cd ct : Value}
    (a : PySem.W.nsIn K mainGlobals "first_no_breadth" = some (some (.ref f))) (l : K.lookup f = some ⟨oc, od, .func (PySem.W.fnOf "first_no_breadth" "first_no_breadth" (defArgs sFnb) (defBody sFnb) (defScope sFnb) .none kV dc pm an cd ct), sl⟩) (c : PySem.W.codeIn K cd "first_no_breadth" = true) (k : PySem.W.keepIn K (.ref f) = true) : FnG K mg "first_no_breadth" sFnb ["breadths"] := by
  have F := fun_mk (st := sFnb) l c k
  exact ⟨f, _, PySem.W.mg_of X G a, F, F.binds (ps := ["breadths"]) fun _ _ _ _ _ _ us hl => match us, hl with | [_], _ => rfl⟩
theorem fg_verdict (X : K.In h) (G : h.Ns mainGlobals mg) {f : Addr} {od an : Option Addr} {sl : Array (Option Value)} {oc kV dc pm cd ct : Value}
    (a : PySem.W.nsIn K mainGlobals "verdict" = some (some (.ref f))) (l : K.lookup f = some ⟨oc, od, .func (PySem.W.fnOf "verdict" "verdict" (defArgs sVer) (defBody sVer) (defScope sVer) .none kV dc pm an cd ct), sl⟩) (c : PySem.W.codeIn K cd "verdict" = true) (k : PySem.W.keepIn K (.ref f) = true) : FnG K mg "verdict" sVer ["places", "heights", "breadths"] := by
  have F := fun_mk (st := sVer) l c k
  exact ⟨f, _, PySem.W.mg_of X G a, F, F.binds (ps := ["places", "heights", "breadths"]) fun _ _ _ _ _ _ us hl => match us, hl with | [_, _, _], _ => rfl⟩
theorem fg_answer_line_call (X : K.In h) (G : h.Ns mainGlobals mg) {f : Addr} {od an : Option Addr} {sl : Array (Option Value)} {oc kV dc pm cd ct : Value}
    (a : PySem.W.nsIn K mainGlobals "answer_line_call" = some (some (.ref f))) (l : K.lookup f = some ⟨oc, od, .func (PySem.W.fnOf "answer_line_call" "answer_line_call" (defArgs sLine) (defBody sLine) (defScope sLine) .none kV dc pm an cd ct), sl⟩) (c : PySem.W.codeIn K cd "answer_line_call" = true) (k : PySem.W.keepIn K (.ref f) = true) : FnG K mg "answer_line_call" sLine ["desk", "call", "reader"] := by
  have F := fun_mk (st := sLine) l c k
  exact ⟨f, _, PySem.W.mg_of X G a, F, F.binds (ps := ["desk", "call", "reader"]) fun _ _ _ _ _ _ us hl => match us, hl with | [_, _, _], _ => rfl⟩
theorem fg_answer_call (X : K.In h) (G : h.Ns mainGlobals mg) {f : Addr} {od an : Option Addr} {sl : Array (Option Value)} {oc kV dc pm cd ct : Value}
    (a : PySem.W.nsIn K mainGlobals "answer_call" = some (some (.ref f))) (l : K.lookup f = some ⟨oc, od, .func (PySem.W.fnOf "answer_call" "answer_call" (defArgs sCall) (defBody sCall) (defScope sCall) .none kV dc pm an cd ct), sl⟩) (c : PySem.W.codeIn K cd "answer_call" = true) (k : PySem.W.keepIn K (.ref f) = true) : FnG K mg "answer_call" sCall ["desk", "reader"] := by
  have F := fun_mk (st := sCall) l c k
  exact ⟨f, _, PySem.W.mg_of X G a, F, F.binds (ps := ["desk", "reader"]) fun _ _ _ _ _ _ us hl => match us, hl with | [_, _], _ => rfl⟩
theorem fg_answers (X : K.In h) (G : h.Ns mainGlobals mg) {f : Addr} {od an : Option Addr} {sl : Array (Option Value)} {oc kV dc pm cd ct : Value}
    (a : PySem.W.nsIn K mainGlobals "answers" = some (some (.ref f))) (l : K.lookup f = some ⟨oc, od, .func (PySem.W.fnOf "answers" "answers" (defArgs sAns) (defBody sAns) (defScope sAns) .none kV dc pm an cd ct), sl⟩) (c : PySem.W.codeIn K cd "answers" = true) (k : PySem.W.keepIn K (.ref f) = true) : FnG K mg "answers" sAns ["calls"] := by
  have F := fun_mk (st := sAns) l c k
  exact ⟨f, _, PySem.W.mg_of X G a, F, F.binds (ps := ["calls"]) fun _ _ _ _ _ _ us hl => match us, hl with | [_], _ => rfl⟩
theorem cg_Batten (X : K.In h) (G : h.Ns mainGlobals mg) {C : Addr} {f0 : Addr} {od0 an0 : Option Addr} {sl0 : Array (Option Value)} {oc0 kV0 dc0 pm0 cd0 ct0 : Value} {f1 : Addr} {od1 an1 : Option Addr} {sl1 : Array (Option Value)} {oc1 kV1 dc1 pm1 cd1 ct1 : Value} {f2 : Addr} {od2 an2 : Option Addr} {sl2 : Array (Option Value)} {oc2 kV2 dc2 pm2 cd2 ct2 : Value} {f3 : Addr} {od3 an3 : Option Addr} {sl3 : Array (Option Value)} {oc3 kV3 dc3 pm3 cd3 ct3 : Value} {f4 : Addr} {od4 an4 : Option Addr} {sl4 : Array (Option Value)} {oc4 kV4 dc4 pm4 cd4 ct4 : Value} {f5 : Addr} {od5 an5 : Option Addr} {sl5 : Array (Option Value)} {oc5 kV5 dc5 pm5 cd5 ct5 : Value} {f6 : Addr} {od6 an6 : Option Addr} {sl6 : Array (Option Value)} {oc6 kV6 dc6 pm6 cd6 ct6 : Value} {f7 : Addr} {od7 an7 : Option Addr} {sl7 : Array (Option Value)} {oc7 kV7 dc7 pm7 cd7 ct7 : Value} {f8 : Addr} {od8 an8 : Option Addr} {sl8 : Array (Option Value)} {oc8 kV8 dc8 pm8 cd8 ct8 : Value}
    (aC : PySem.W.nsIn K mainGlobals "Batten" = some (some (.ref C)))
    (a0 : PySem.W.findIn K (.ref C) "__init__" = some (some (.ref f0))) (i0 : PySem.W.isFn K (.ref f0) = true) (l0 : K.lookup f0 = some ⟨oc0, od0, .func (PySem.W.fnOf "__init__" "Batten.__init__" (defArgs sBtInit) (defBody sBtInit) (defScope sBtInit) .none kV0 dc0 pm0 an0 cd0 ct0), sl0⟩) (c0 : PySem.W.codeIn K cd0 "Batten.__init__" = true) (k0 : PySem.W.keepIn K (.ref f0) = true)
    (a1 : PySem.W.findIn K (.ref C) "covers" = some (some (.ref f1))) (i1 : PySem.W.isFn K (.ref f1) = true) (l1 : K.lookup f1 = some ⟨oc1, od1, .func (PySem.W.fnOf "covers" "Batten.covers" (defArgs sBtCov) (defBody sBtCov) (defScope sBtCov) .none kV1 dc1 pm1 an1 cd1 ct1), sl1⟩) (c1 : PySem.W.codeIn K cd1 "Batten.covers" = true) (k1 : PySem.W.keepIn K (.ref f1) = true)
    (a2 : PySem.W.findIn K (.ref C) "has_cubic" = some (some (.ref f2))) (i2 : PySem.W.isFn K (.ref f2) = true) (l2 : K.lookup f2 = some ⟨oc2, od2, .func (PySem.W.fnOf "has_cubic" "Batten.has_cubic" (defArgs sBtHas) (defBody sBtHas) (defScope sBtHas) .none kV2 dc2 pm2 an2 cd2 ct2), sl2⟩) (c2 : PySem.W.codeIn K cd2 "Batten.has_cubic" = true) (k2 : PySem.W.keepIn K (.ref f2) = true)
    (a3 : PySem.W.findIn K (.ref C) "cubic_at" = some (some (.ref f3))) (i3 : PySem.W.isFn K (.ref f3) = true) (l3 : K.lookup f3 = some ⟨oc3, od3, .func (PySem.W.fnOf "cubic_at" "Batten.cubic_at" (defArgs sBtCat) (defBody sBtCat) (defScope sBtCat) .none kV3 dc3 pm3 an3 cd3 ct3), sl3⟩) (c3 : PySem.W.codeIn K cd3 "Batten.cubic_at" = true) (k3 : PySem.W.keepIn K (.ref f3) = true)
    (a4 : PySem.W.findIn K (.ref C) "cubic" = some (some (.ref f4))) (i4 : PySem.W.isFn K (.ref f4) = true) (l4 : K.lookup f4 = some ⟨oc4, od4, .func (PySem.W.fnOf "cubic" "Batten.cubic" (defArgs sBtCub) (defBody sBtCub) (defScope sBtCub) .none kV4 dc4 pm4 an4 cd4 ct4), sl4⟩) (c4 : PySem.W.codeIn K cd4 "Batten.cubic" = true) (k4 : PySem.W.keepIn K (.ref f4) = true)
    (a5 : PySem.W.findIn K (.ref C) "derived" = some (some (.ref f5))) (i5 : PySem.W.isFn K (.ref f5) = true) (l5 : K.lookup f5 = some ⟨oc5, od5, .func (PySem.W.fnOf "derived" "Batten.derived" (defArgs sBtDer) (defBody sBtDer) (defScope sBtDer) .none kV5 dc5 pm5 an5 cd5 ct5), sl5⟩) (c5 : PySem.W.codeIn K cd5 "Batten.derived" = true) (k5 : PySem.W.keepIn K (.ref f5) = true)
    (a6 : PySem.W.findIn K (.ref C) "bending" = some (some (.ref f6))) (i6 : PySem.W.isFn K (.ref f6) = true) (l6 : K.lookup f6 = some ⟨oc6, od6, .func (PySem.W.fnOf "bending" "Batten.bending" (defArgs sBtBend) (defBody sBtBend) (defScope sBtBend) .none kV6 dc6 pm6 an6 cd6 ct6), sl6⟩) (c6 : PySem.W.codeIn K cd6 "Batten.bending" = true) (k6 : PySem.W.keepIn K (.ref f6) = true)
    (a7 : PySem.W.findIn K (.ref C) "turns" = some (some (.ref f7))) (i7 : PySem.W.isFn K (.ref f7) = true) (l7 : K.lookup f7 = some ⟨oc7, od7, .func (PySem.W.fnOf "turns" "Batten.turns" (defArgs sBtTurn) (defBody sBtTurn) (defScope sBtTurn) .none kV7 dc7 pm7 an7 cd7 ct7), sl7⟩) (c7 : PySem.W.codeIn K cd7 "Batten.turns" = true) (k7 : PySem.W.keepIn K (.ref f7) = true)
    (a8 : PySem.W.findIn K (.ref C) "top" = some (some (.ref f8))) (i8 : PySem.W.isFn K (.ref f8) = true) (l8 : K.lookup f8 = some ⟨oc8, od8, .func (PySem.W.fnOf "top" "Batten.top" (defArgs sBtTop) (defBody sBtTop) (defScope sBtTop) .none kV8 dc8 pm8 an8 cd8 ct8), sl8⟩) (c8 : PySem.W.codeIn K cd8 "Batten.top" = true) (k8 : PySem.W.keepIn K (.ref f8) = true)
    (pg : PySem.W.plainGet K C Str.empty = true) (hd : PySem.W.hasDictIn K C = true) (po : PySem.W.plainOver K C = true) (sa : PySem.W.findIn K (.ref C) "__setattr__" = some (some (.builtin "object.__setattr__"))) (mk : PySem.W.makesIn K C = true) (kc : PySem.W.keepIn K (.ref C) = true)
    (n0 : PySem.W.findIn K (.ref C) "xs" = some none) (n1 : PySem.W.findIn K (.ref C) "ys" = some none) (n2 : PySem.W.findIn K (.ref C) "gaps" = some none) (n3 : PySem.W.findIn K (.ref C) "sixths" = some none) (n4 : PySem.W.findIn K (.ref C) "under" = some none) : ∃ C, mg "Batten" = some (.ref C) ∧ BtC K C ∧ InG K C "Batten.__init__" sBtInit ["self", "xs", "ys"] ∧ MtG K C "covers" "Batten.covers" sBtCov ["self", "p", "q"] ∧ MtG K C "has_cubic" "Batten.has_cubic" sBtHas ["self", "i"] ∧ MtG K C "cubic_at" "Batten.cubic_at" sBtCat ["self", "p", "q"] ∧ MtG K C "cubic" "Batten.cubic" sBtCub ["self", "i"] ∧ MtG K C "derived" "Batten.derived" sBtDer ["self", "p", "q", "what"] ∧ MtG K C "bending" "Batten.bending" sBtBend ["self"] ∧ MtG K C "turns" "Batten.turns" sBtTurn ["self"] ∧ MtG K C "top" "Batten.top" sBtTop ["self"] := by
  have F0 := fun_mk (st := sBtInit) l0 c0 k0
  have b0 := F0.binds (ps := ["self", "xs", "ys"]) fun _ _ _ _ _ _ us hl => match us, hl with | [_, _, _], _ => rfl
  have F1 := fun_mk (st := sBtCov) l1 c1 k1
  have b1 := F1.binds (ps := ["self", "p", "q"]) fun _ _ _ _ _ _ us hl => match us, hl with | [_, _, _], _ => rfl
  have F2 := fun_mk (st := sBtHas) l2 c2 k2
  have b2 := F2.binds (ps := ["self", "i"]) fun _ _ _ _ _ _ us hl => match us, hl with | [_, _], _ => rfl
  have F3 := fun_mk (st := sBtCat) l3 c3 k3
  have b3 := F3.binds (ps := ["self", "p", "q"]) fun _ _ _ _ _ _ us hl => match us, hl with | [_, _, _], _ => rfl
  have F4 := fun_mk (st := sBtCub) l4 c4 k4
  have b4 := F4.binds (ps := ["self", "i"]) fun _ _ _ _ _ _ us hl => match us, hl with | [_, _], _ => rfl
  have F5 := fun_mk (st := sBtDer) l5 c5 k5
  have b5 := F5.binds (ps := ["self", "p", "q", "what"]) fun _ _ _ _ _ _ us hl => match us, hl with | [_, _, _, _], _ => rfl
  have F6 := fun_mk (st := sBtBend) l6 c6 k6
  have b6 := F6.binds (ps := ["self"]) fun _ _ _ _ _ _ us hl => match us, hl with | [_], _ => rfl
  have F7 := fun_mk (st := sBtTurn) l7 c7 k7
  have b7 := F7.binds (ps := ["self"]) fun _ _ _ _ _ _ us hl => match us, hl with | [_], _ => rfl
  have F8 := fun_mk (st := sBtTop) l8 c8 k8
  have b8 := F8.binds (ps := ["self"]) fun _ _ _ _ _ _ us hl => match us, hl with | [_], _ => rfl
  exact ⟨C, PySem.W.mg_of X G aC, ⟨⟨pg, hd, po, sa⟩, n0, n1, n2, n3, n4⟩, ⟨f0, _, ⟨mk, a0, i0, kc⟩, F0, b0⟩, ⟨f1, _, ⟨a1, i1, k1⟩, F1, b1⟩, ⟨f2, _, ⟨a2, i2, k2⟩, F2, b2⟩, ⟨f3, _, ⟨a3, i3, k3⟩, F3, b3⟩, ⟨f4, _, ⟨a4, i4, k4⟩, F4, b4⟩, ⟨f5, _, ⟨a5, i5, k5⟩, F5, b5⟩, ⟨f6, _, ⟨a6, i6, k6⟩, F6, b6⟩, ⟨f7, _, ⟨a7, i7, k7⟩, F7, b7⟩, ⟨f8, _, ⟨a8, i8, k8⟩, F8, b8⟩⟩
theorem cg_Reader (X : K.In h) (G : h.Ns mainGlobals mg) {C : Addr} {f0 : Addr} {od0 an0 : Option Addr} {sl0 : Array (Option Value)} {oc0 kV0 dc0 pm0 cd0 ct0 : Value} {f1 : Addr} {od1 an1 : Option Addr} {sl1 : Array (Option Value)} {oc1 kV1 dc1 pm1 cd1 ct1 : Value} {f2 : Addr} {od2 an2 : Option Addr} {sl2 : Array (Option Value)} {oc2 kV2 dc2 pm2 cd2 ct2 : Value} {f3 : Addr} {od3 an3 : Option Addr} {sl3 : Array (Option Value)} {oc3 kV3 dc3 pm3 cd3 ct3 : Value}
    (aC : PySem.W.nsIn K mainGlobals "Reader" = some (some (.ref C)))
    (a0 : PySem.W.findIn K (.ref C) "__init__" = some (some (.ref f0))) (i0 : PySem.W.isFn K (.ref f0) = true) (l0 : K.lookup f0 = some ⟨oc0, od0, .func (PySem.W.fnOf "__init__" "Reader.__init__" (defArgs sRdInit) (defBody sRdInit) (defScope sRdInit) .none kV0 dc0 pm0 an0 cd0 ct0), sl0⟩) (c0 : PySem.W.codeIn K cd0 "Reader.__init__" = true) (k0 : PySem.W.keepIn K (.ref f0) = true)
    (a1 : PySem.W.findIn K (.ref C) "ended" = some (some (.ref f1))) (i1 : PySem.W.isFn K (.ref f1) = true) (l1 : K.lookup f1 = some ⟨oc1, od1, .func (PySem.W.fnOf "ended" "Reader.ended" (defArgs sRdEnd) (defBody sRdEnd) (defScope sRdEnd) .none kV1 dc1 pm1 an1 cd1 ct1), sl1⟩) (c1 : PySem.W.codeIn K cd1 "Reader.ended" = true) (k1 : PySem.W.keepIn K (.ref f1) = true)
    (a2 : PySem.W.findIn K (.ref C) "number" = some (some (.ref f2))) (i2 : PySem.W.isFn K (.ref f2) = true) (l2 : K.lookup f2 = some ⟨oc2, od2, .func (PySem.W.fnOf "number" "Reader.number" (defArgs sRdNum) (defBody sRdNum) (defScope sRdNum) .none kV2 dc2 pm2 an2 cd2 ct2), sl2⟩) (c2 : PySem.W.codeIn K cd2 "Reader.number" = true) (k2 : PySem.W.keepIn K (.ref f2) = true)
    (a3 : PySem.W.findIn K (.ref C) "row" = some (some (.ref f3))) (i3 : PySem.W.isFn K (.ref f3) = true) (l3 : K.lookup f3 = some ⟨oc3, od3, .func (PySem.W.fnOf "row" "Reader.row" (defArgs sRdRow) (defBody sRdRow) (defScope sRdRow) .none kV3 dc3 pm3 an3 cd3 ct3), sl3⟩) (c3 : PySem.W.codeIn K cd3 "Reader.row" = true) (k3 : PySem.W.keepIn K (.ref f3) = true)
    (pg : PySem.W.plainGet K C Str.empty = true) (hd : PySem.W.hasDictIn K C = true) (po : PySem.W.plainOver K C = true) (sa : PySem.W.findIn K (.ref C) "__setattr__" = some (some (.builtin "object.__setattr__"))) (mk : PySem.W.makesIn K C = true) (kc : PySem.W.keepIn K (.ref C) = true)
    (n0 : PySem.W.findIn K (.ref C) "calls" = some none) (n1 : PySem.W.findIn K (.ref C) "spot" = some none) : ∃ C, mg "Reader" = some (.ref C) ∧ RdC K C ∧ InG K C "Reader.__init__" sRdInit ["self", "calls"] ∧ MtG K C "ended" "Reader.ended" sRdEnd ["self"] ∧ MtG K C "number" "Reader.number" sRdNum ["self"] ∧ MtG K C "row" "Reader.row" sRdRow ["self"] := by
  have F0 := fun_mk (st := sRdInit) l0 c0 k0
  have b0 := F0.binds (ps := ["self", "calls"]) fun _ _ _ _ _ _ us hl => match us, hl with | [_, _], _ => rfl
  have F1 := fun_mk (st := sRdEnd) l1 c1 k1
  have b1 := F1.binds (ps := ["self"]) fun _ _ _ _ _ _ us hl => match us, hl with | [_], _ => rfl
  have F2 := fun_mk (st := sRdNum) l2 c2 k2
  have b2 := F2.binds (ps := ["self"]) fun _ _ _ _ _ _ us hl => match us, hl with | [_], _ => rfl
  have F3 := fun_mk (st := sRdRow) l3 c3 k3
  have b3 := F3.binds (ps := ["self"]) fun _ _ _ _ _ _ us hl => match us, hl with | [_], _ => rfl
  exact ⟨C, PySem.W.mg_of X G aC, ⟨⟨pg, hd, po, sa⟩, n0, n1⟩, ⟨f0, _, ⟨mk, a0, i0, kc⟩, F0, b0⟩, ⟨f1, _, ⟨a1, i1, k1⟩, F1, b1⟩, ⟨f2, _, ⟨a2, i2, k2⟩, F2, b2⟩, ⟨f3, _, ⟨a3, i3, k3⟩, F3, b3⟩⟩
theorem cg_Table (X : K.In h) (G : h.Ns mainGlobals mg) {C : Addr} {f0 : Addr} {od0 an0 : Option Addr} {sl0 : Array (Option Value)} {oc0 kV0 dc0 pm0 cd0 ct0 : Value} {f1 : Addr} {od1 an1 : Option Addr} {sl1 : Array (Option Value)} {oc1 kV1 dc1 pm1 cd1 ct1 : Value} {f2 : Addr} {od2 an2 : Option Addr} {sl2 : Array (Option Value)} {oc2 kV2 dc2 pm2 cd2 ct2 : Value} {f3 : Addr} {od3 an3 : Option Addr} {sl3 : Array (Option Value)} {oc3 kV3 dc3 pm3 cd3 ct3 : Value}
    (aC : PySem.W.nsIn K mainGlobals "Table" = some (some (.ref C)))
    (a0 : PySem.W.findIn K (.ref C) "__init__" = some (some (.ref f0))) (i0 : PySem.W.isFn K (.ref f0) = true) (l0 : K.lookup f0 = some ⟨oc0, od0, .func (PySem.W.fnOf "__init__" "Table.__init__" (defArgs sTbInit) (defBody sTbInit) (defScope sTbInit) .none kV0 dc0 pm0 an0 cd0 ct0), sl0⟩) (c0 : PySem.W.codeIn K cd0 "Table.__init__" = true) (k0 : PySem.W.keepIn K (.ref f0) = true)
    (a1 : PySem.W.findIn K (.ref C) "has_line" = some (some (.ref f1))) (i1 : PySem.W.isFn K (.ref f1) = true) (l1 : K.lookup f1 = some ⟨oc1, od1, .func (PySem.W.fnOf "has_line" "Table.has_line" (defArgs sTbHas) (defBody sTbHas) (defScope sTbHas) .none kV1 dc1 pm1 an1 cd1 ct1), sl1⟩) (c1 : PySem.W.codeIn K cd1 "Table.has_line" = true) (k1 : PySem.W.keepIn K (.ref f1) = true)
    (a2 : PySem.W.findIn K (.ref C) "nail_places" = some (some (.ref f2))) (i2 : PySem.W.isFn K (.ref f2) = true) (l2 : K.lookup f2 = some ⟨oc2, od2, .func (PySem.W.fnOf "nail_places" "Table.nail_places" (defArgs sTbPl) (defBody sTbPl) (defScope sTbPl) .none kV2 dc2 pm2 an2 cd2 ct2), sl2⟩) (c2 : PySem.W.codeIn K cd2 "Table.nail_places" = true) (k2 : PySem.W.keepIn K (.ref f2) = true)
    (a3 : PySem.W.findIn K (.ref C) "nail_breadths" = some (some (.ref f3))) (i3 : PySem.W.isFn K (.ref f3) = true) (l3 : K.lookup f3 = some ⟨oc3, od3, .func (PySem.W.fnOf "nail_breadths" "Table.nail_breadths" (defArgs sTbBr) (defBody sTbBr) (defScope sTbBr) .none kV3 dc3 pm3 an3 cd3 ct3), sl3⟩) (c3 : PySem.W.codeIn K cd3 "Table.nail_breadths" = true) (k3 : PySem.W.keepIn K (.ref f3) = true)
    (pg : PySem.W.plainGet K C Str.empty = true) (hd : PySem.W.hasDictIn K C = true) (po : PySem.W.plainOver K C = true) (sa : PySem.W.findIn K (.ref C) "__setattr__" = some (some (.builtin "object.__setattr__"))) (mk : PySem.W.makesIn K C = true) (kc : PySem.W.keepIn K (.ref C) = true)
    (n0 : PySem.W.findIn K (.ref C) "places" = some none) (n1 : PySem.W.findIn K (.ref C) "heights" = some none) (n2 : PySem.W.findIn K (.ref C) "breadths" = some none) (n3 : PySem.W.findIn K (.ref C) "number" = some none) (n4 : PySem.W.findIn K (.ref C) "refusal" = some none) : ∃ C, mg "Table" = some (.ref C) ∧ TbC K C ∧ InG K C "Table.__init__" sTbInit ["self", "places", "heights", "breadths"] ∧ MtG K C "has_line" "Table.has_line" sTbHas ["self", "way", "k"] ∧ MtG K C "nail_places" "Table.nail_places" sTbPl ["self", "way"] ∧ MtG K C "nail_breadths" "Table.nail_breadths" sTbBr ["self", "way", "k"] ∧ PySem.W.findIn K (.ref C) "number" = some none ∧ PySem.W.findIn K (.ref C) "refusal" = some none := by
  have F0 := fun_mk (st := sTbInit) l0 c0 k0
  have b0 := F0.binds (ps := ["self", "places", "heights", "breadths"]) fun _ _ _ _ _ _ us hl => match us, hl with | [_, _, _, _], _ => rfl
  have F1 := fun_mk (st := sTbHas) l1 c1 k1
  have b1 := F1.binds (ps := ["self", "way", "k"]) fun _ _ _ _ _ _ us hl => match us, hl with | [_, _, _], _ => rfl
  have F2 := fun_mk (st := sTbPl) l2 c2 k2
  have b2 := F2.binds (ps := ["self", "way"]) fun _ _ _ _ _ _ us hl => match us, hl with | [_, _], _ => rfl
  have F3 := fun_mk (st := sTbBr) l3 c3 k3
  have b3 := F3.binds (ps := ["self", "way", "k"]) fun _ _ _ _ _ _ us hl => match us, hl with | [_, _, _], _ => rfl
  exact ⟨C, PySem.W.mg_of X G aC, ⟨⟨pg, hd, po, sa⟩, n0, n1, n2⟩, ⟨f0, _, ⟨mk, a0, i0, kc⟩, F0, b0⟩, ⟨f1, _, ⟨a1, i1, k1⟩, F1, b1⟩, ⟨f2, _, ⟨a2, i2, k2⟩, F2, b2⟩, ⟨f3, _, ⟨a3, i3, k3⟩, F3, b3⟩, n3, n4⟩
theorem cg_Desk (X : K.In h) (G : h.Ns mainGlobals mg) {C : Addr} {f0 : Addr} {od0 an0 : Option Addr} {sl0 : Array (Option Value)} {oc0 kV0 dc0 pm0 cd0 ct0 : Value} {f1 : Addr} {od1 an1 : Option Addr} {sl1 : Array (Option Value)} {oc1 kV1 dc1 pm1 cd1 ct1 : Value} {f2 : Addr} {od2 an2 : Option Addr} {sl2 : Array (Option Value)} {oc2 kV2 dc2 pm2 cd2 ct2 : Value} {f3 : Addr} {od3 an3 : Option Addr} {sl3 : Array (Option Value)} {oc3 kV3 dc3 pm3 cd3 ct3 : Value} {f4 : Addr} {od4 an4 : Option Addr} {sl4 : Array (Option Value)} {oc4 kV4 dc4 pm4 cd4 ct4 : Value} {f5 : Addr} {od5 an5 : Option Addr} {sl5 : Array (Option Value)} {oc5 kV5 dc5 pm5 cd5 ct5 : Value} {f6 : Addr} {od6 an6 : Option Addr} {sl6 : Array (Option Value)} {oc6 kV6 dc6 pm6 cd6 ct6 : Value} {f7 : Addr} {od7 an7 : Option Addr} {sl7 : Array (Option Value)} {oc7 kV7 dc7 pm7 cd7 ct7 : Value} {f8 : Addr} {od8 an8 : Option Addr} {sl8 : Array (Option Value)} {oc8 kV8 dc8 pm8 cd8 ct8 : Value} {f9 : Addr} {od9 an9 : Option Addr} {sl9 : Array (Option Value)} {oc9 kV9 dc9 pm9 cd9 ct9 : Value}
    (aC : PySem.W.nsIn K mainGlobals "Desk" = some (some (.ref C)))
    (a0 : PySem.W.findIn K (.ref C) "__init__" = some (some (.ref f0))) (i0 : PySem.W.isFn K (.ref f0) = true) (l0 : K.lookup f0 = some ⟨oc0, od0, .func (PySem.W.fnOf "__init__" "Desk.__init__" (defArgs sDkInit) (defBody sDkInit) (defScope sDkInit) .none kV0 dc0 pm0 an0 cd0 ct0), sl0⟩) (c0 : PySem.W.codeIn K cd0 "Desk.__init__" = true) (k0 : PySem.W.keepIn K (.ref f0) = true)
    (a1 : PySem.W.findIn K (.ref C) "refusal" = some (some (.ref f1))) (i1 : PySem.W.isFn K (.ref f1) = true) (l1 : K.lookup f1 = some ⟨oc1, od1, .func (PySem.W.fnOf "refusal" "Desk.refusal" (defArgs sDkRef) (defBody sDkRef) (defScope sDkRef) .none kV1 dc1 pm1 an1 cd1 ct1), sl1⟩) (c1 : PySem.W.codeIn K cd1 "Desk.refusal" = true) (k1 : PySem.W.keepIn K (.ref f1) = true)
    (a2 : PySem.W.findIn K (.ref C) "batten" = some (some (.ref f2))) (i2 : PySem.W.isFn K (.ref f2) = true) (l2 : K.lookup f2 = some ⟨oc2, od2, .func (PySem.W.fnOf "batten" "Desk.batten" (defArgs sDkBat) (defBody sDkBat) (defScope sDkBat) .none kV2 dc2 pm2 an2 cd2 ct2), sl2⟩) (c2 : PySem.W.codeIn K cd2 "Desk.batten" = true) (k2 : PySem.W.keepIn K (.ref f2) = true)
    (a3 : PySem.W.findIn K (.ref C) "make" = some (some (.ref f3))) (i3 : PySem.W.isFn K (.ref f3) = true) (l3 : K.lookup f3 = some ⟨oc3, od3, .func (PySem.W.fnOf "make" "Desk.make" (defArgs sDkMake) (defBody sDkMake) (defScope sDkMake) .none kV3 dc3 pm3 an3 cd3 ct3), sl3⟩) (c3 : PySem.W.codeIn K cd3 "Desk.make" = true) (k3 : PySem.W.keepIn K (.ref f3) = true)
    (a4 : PySem.W.findIn K (.ref C) "at" = some (some (.ref f4))) (i4 : PySem.W.isFn K (.ref f4) = true) (l4 : K.lookup f4 = some ⟨oc4, od4, .func (PySem.W.fnOf "at" "Desk.at" (defArgs sDkAt) (defBody sDkAt) (defScope sDkAt) .none kV4 dc4 pm4 an4 cd4 ct4), sl4⟩) (c4 : PySem.W.codeIn K cd4 "Desk.at" = true) (k4 : PySem.W.keepIn K (.ref f4) = true)
    (a5 : PySem.W.findIn K (.ref C) "near" = some (some (.ref f5))) (i5 : PySem.W.isFn K (.ref f5) = true) (l5 : K.lookup f5 = some ⟨oc5, od5, .func (PySem.W.fnOf "near" "Desk.near" (defArgs sDkNear) (defBody sDkNear) (defScope sDkNear) .none kV5 dc5 pm5 an5 cd5 ct5), sl5⟩) (c5 : PySem.W.codeIn K cd5 "Desk.near" = true) (k5 : PySem.W.keepIn K (.ref f5) = true)
    (a6 : PySem.W.findIn K (.ref C) "piece" = some (some (.ref f6))) (i6 : PySem.W.isFn K (.ref f6) = true) (l6 : K.lookup f6 = some ⟨oc6, od6, .func (PySem.W.fnOf "piece" "Desk.piece" (defArgs sDkPiece) (defBody sDkPiece) (defScope sDkPiece) .none kV6 dc6 pm6 an6 cd6 ct6), sl6⟩) (c6 : PySem.W.codeIn K cd6 "Desk.piece" = true) (k6 : PySem.W.keepIn K (.ref f6) = true)
    (a7 : PySem.W.findIn K (.ref C) "bending" = some (some (.ref f7))) (i7 : PySem.W.isFn K (.ref f7) = true) (l7 : K.lookup f7 = some ⟨oc7, od7, .func (PySem.W.fnOf "bending" "Desk.bending" (defArgs sDkBend) (defBody sDkBend) (defScope sDkBend) .none kV7 dc7 pm7 an7 cd7 ct7), sl7⟩) (c7 : PySem.W.codeIn K cd7 "Desk.bending" = true) (k7 : PySem.W.keepIn K (.ref f7) = true)
    (a8 : PySem.W.findIn K (.ref C) "turns" = some (some (.ref f8))) (i8 : PySem.W.isFn K (.ref f8) = true) (l8 : K.lookup f8 = some ⟨oc8, od8, .func (PySem.W.fnOf "turns" "Desk.turns" (defArgs sDkTurn) (defBody sDkTurn) (defScope sDkTurn) .none kV8 dc8 pm8 an8 cd8 ct8), sl8⟩) (c8 : PySem.W.codeIn K cd8 "Desk.turns" = true) (k8 : PySem.W.keepIn K (.ref f8) = true)
    (a9 : PySem.W.findIn K (.ref C) "top" = some (some (.ref f9))) (i9 : PySem.W.isFn K (.ref f9) = true) (l9 : K.lookup f9 = some ⟨oc9, od9, .func (PySem.W.fnOf "top" "Desk.top" (defArgs sDkTop) (defBody sDkTop) (defScope sDkTop) .none kV9 dc9 pm9 an9 cd9 ct9), sl9⟩) (c9 : PySem.W.codeIn K cd9 "Desk.top" = true) (k9 : PySem.W.keepIn K (.ref f9) = true)
    (pg : PySem.W.plainGet K C Str.empty = true) (hd : PySem.W.hasDictIn K C = true) (po : PySem.W.plainOver K C = true) (sa : PySem.W.findIn K (.ref C) "__setattr__" = some (some (.builtin "object.__setattr__"))) (mk : PySem.W.makesIn K C = true) (kc : PySem.W.keepIn K (.ref C) = true)
    (n0 : PySem.W.findIn K (.ref C) "table" = some none) (n1 : PySem.W.findIn K (.ref C) "number" = some none) : ∃ C, mg "Desk" = some (.ref C) ∧ DkC K C ∧ InG K C "Desk.__init__" sDkInit ["self"] ∧ MtG K C "refusal" "Desk.refusal" sDkRef ["self", "way", "k", "others_right"] ∧ MtG K C "batten" "Desk.batten" sDkBat ["self", "way", "k"] ∧ MtG K C "make" "Desk.make" sDkMake ["self", "places", "heights", "breadths"] ∧ MtG K C "at" "Desk.at" sDkAt ["self", "way", "k", "p", "q", "what"] ∧ MtG K C "near" "Desk.near" sDkNear ["self", "way", "k", "x"] ∧ MtG K C "piece" "Desk.piece" sDkPiece ["self", "way", "k", "i"] ∧ MtG K C "bending" "Desk.bending" sDkBend ["self", "way", "k"] ∧ MtG K C "turns" "Desk.turns" sDkTurn ["self", "way", "k"] ∧ MtG K C "top" "Desk.top" sDkTop ["self", "way", "k"] ∧ PySem.W.findIn K (.ref C) "number" = some none := by
  have F0 := fun_mk (st := sDkInit) l0 c0 k0
  have b0 := F0.binds (ps := ["self"]) fun _ _ _ _ _ _ us hl => match us, hl with | [_], _ => rfl
  have F1 := fun_mk (st := sDkRef) l1 c1 k1
  have b1 := F1.binds (ps := ["self", "way", "k", "others_right"]) fun _ _ _ _ _ _ us hl => match us, hl with | [_, _, _, _], _ => rfl
  have F2 := fun_mk (st := sDkBat) l2 c2 k2
  have b2 := F2.binds (ps := ["self", "way", "k"]) fun _ _ _ _ _ _ us hl => match us, hl with | [_, _, _], _ => rfl
  have F3 := fun_mk (st := sDkMake) l3 c3 k3
  have b3 := F3.binds (ps := ["self", "places", "heights", "breadths"]) fun _ _ _ _ _ _ us hl => match us, hl with | [_, _, _, _], _ => rfl
  have F4 := fun_mk (st := sDkAt) l4 c4 k4
  have b4 := F4.binds (ps := ["self", "way", "k", "p", "q", "what"]) fun _ _ _ _ _ _ us hl => match us, hl with | [_, _, _, _, _, _], _ => rfl
  have F5 := fun_mk (st := sDkNear) l5 c5 k5
  have b5 := F5.binds (ps := ["self", "way", "k", "x"]) fun _ _ _ _ _ _ us hl => match us, hl with | [_, _, _, _], _ => rfl
  have F6 := fun_mk (st := sDkPiece) l6 c6 k6
  have b6 := F6.binds (ps := ["self", "way", "k", "i"]) fun _ _ _ _ _ _ us hl => match us, hl with | [_, _, _, _], _ => rfl
  have F7 := fun_mk (st := sDkBend) l7 c7 k7
  have b7 := F7.binds (ps := ["self", "way", "k"]) fun _ _ _ _ _ _ us hl => match us, hl with | [_, _, _], _ => rfl
  have F8 := fun_mk (st := sDkTurn) l8 c8 k8
  have b8 := F8.binds (ps := ["self", "way", "k"]) fun _ _ _ _ _ _ us hl => match us, hl with | [_, _, _], _ => rfl
  have F9 := fun_mk (st := sDkTop) l9 c9 k9
  have b9 := F9.binds (ps := ["self", "way", "k"]) fun _ _ _ _ _ _ us hl => match us, hl with | [_, _, _], _ => rfl
  exact ⟨C, PySem.W.mg_of X G aC, ⟨⟨pg, hd, po, sa⟩, n0⟩, ⟨f0, _, ⟨mk, a0, i0, kc⟩, F0, b0⟩, ⟨f1, _, ⟨a1, i1, k1⟩, F1, b1⟩, ⟨f2, _, ⟨a2, i2, k2⟩, F2, b2⟩, ⟨f3, _, ⟨a3, i3, k3⟩, F3, b3⟩, ⟨f4, _, ⟨a4, i4, k4⟩, F4, b4⟩, ⟨f5, _, ⟨a5, i5, k5⟩, F5, b5⟩, ⟨f6, _, ⟨a6, i6, k6⟩, F6, b6⟩, ⟨f7, _, ⟨a7, i7, k7⟩, F7, b7⟩, ⟨f8, _, ⟨a8, i8, k8⟩, F8, b8⟩, ⟨f9, _, ⟨a9, i9, k9⟩, F9, b9⟩, n1⟩
theorem gg {z : Int} {x : Str} {t : Tok} (X : K.In h) (G : h.Ns mainGlobals mg) (a : PySem.W.nsIn K mainGlobals x = some (some (.int z t))) : Glo mg x z := ⟨t, PySem.W.mg_of X G a⟩
theorem meth_ne {C C' : Addr} {m : Str} {f : Addr} (h : Meth K C m f) (h' : PySem.W.findIn K (.ref C') m = some none) : C' ≠ C := fun e => by
  subst e
  have := h.1
  rw [h'] at this
  cases this
end
theorem all_ok {P : Program} {w : World} {K : PySem.W.Frag} {mg : Str → Option Value} {fa : Addr} (hfa : mg "answers" = some (.ref fa))
    (q_product_of : FnG K mg "product_of" sProd ["numbers"])
    (q_kinks_of : FnG K mg "kinks_of" sKinks ["gaps", "ys", "product"])
    (q_eliminate : FnG K mg "eliminate" sElim ["gaps", "kinks"])
    (q_sixths_of : FnG K mg "sixths_of" sSix ["gaps", "kinks"])
    (q_common_divisor : FnG K mg "common_divisor" sGcd ["one", "other"])
    (q_lowest : FnG K mg "lowest" sLow ["above", "below"])
    (q_ceiling : FnG K mg "ceiling" sCeil ["above", "below"])
    (q_nearest : FnG K mg "nearest" sNear ["above", "below"])
    (q_signed_square : FnG K mg "signed_square" sSq ["number"])
    (q_root_ceiling : FnG K mg "root_ceiling" sRoot ["number"])
    (q_has_crest : FnG K mg "has_crest" sHas ["cubic", "gap"])
    (q_crest_ceiling : FnG K mg "crest_ceiling" sCrest ["cubic"])
    (q_first_not_rising : FnG K mg "first_not_rising" sFnr ["numbers", "least"])
    (q_first_no_breadth : FnG K mg "first_no_breadth" sFnb ["breadths"])
    (q_verdict : FnG K mg "verdict" sVer ["places", "heights", "breadths"])
    (q_answer_line_call : FnG K mg "answer_line_call" sLine ["desk", "call", "reader"])
    (q_answer_call : FnG K mg "answer_call" sCall ["desk", "reader"])
    (q_answers : FnG K mg "answers" sAns ["calls"])
    (c_Batten : ∃ C, mg "Batten" = some (.ref C) ∧ BtC K C ∧ InG K C "Batten.__init__" sBtInit ["self", "xs", "ys"] ∧ MtG K C "covers" "Batten.covers" sBtCov ["self", "p", "q"] ∧ MtG K C "has_cubic" "Batten.has_cubic" sBtHas ["self", "i"] ∧ MtG K C "cubic_at" "Batten.cubic_at" sBtCat ["self", "p", "q"] ∧ MtG K C "cubic" "Batten.cubic" sBtCub ["self", "i"] ∧ MtG K C "derived" "Batten.derived" sBtDer ["self", "p", "q", "what"] ∧ MtG K C "bending" "Batten.bending" sBtBend ["self"] ∧ MtG K C "turns" "Batten.turns" sBtTurn ["self"] ∧ MtG K C "top" "Batten.top" sBtTop ["self"])
    (c_Reader : ∃ C, mg "Reader" = some (.ref C) ∧ RdC K C ∧ InG K C "Reader.__init__" sRdInit ["self", "calls"] ∧ MtG K C "ended" "Reader.ended" sRdEnd ["self"] ∧ MtG K C "number" "Reader.number" sRdNum ["self"] ∧ MtG K C "row" "Reader.row" sRdRow ["self"])
    (c_Table : ∃ C, mg "Table" = some (.ref C) ∧ TbC K C ∧ InG K C "Table.__init__" sTbInit ["self", "places", "heights", "breadths"] ∧ MtG K C "has_line" "Table.has_line" sTbHas ["self", "way", "k"] ∧ MtG K C "nail_places" "Table.nail_places" sTbPl ["self", "way"] ∧ MtG K C "nail_breadths" "Table.nail_breadths" sTbBr ["self", "way", "k"] ∧ PySem.W.findIn K (.ref C) "number" = some none ∧ PySem.W.findIn K (.ref C) "refusal" = some none)
    (c_Desk : ∃ C, mg "Desk" = some (.ref C) ∧ DkC K C ∧ InG K C "Desk.__init__" sDkInit ["self"] ∧ MtG K C "refusal" "Desk.refusal" sDkRef ["self", "way", "k", "others_right"] ∧ MtG K C "batten" "Desk.batten" sDkBat ["self", "way", "k"] ∧ MtG K C "make" "Desk.make" sDkMake ["self", "places", "heights", "breadths"] ∧ MtG K C "at" "Desk.at" sDkAt ["self", "way", "k", "p", "q", "what"] ∧ MtG K C "near" "Desk.near" sDkNear ["self", "way", "k", "x"] ∧ MtG K C "piece" "Desk.piece" sDkPiece ["self", "way", "k", "i"] ∧ MtG K C "bending" "Desk.bending" sDkBend ["self", "way", "k"] ∧ MtG K C "turns" "Desk.turns" sDkTurn ["self", "way", "k"] ∧ MtG K C "top" "Desk.top" sDkTop ["self", "way", "k"] ∧ PySem.W.findIn K (.ref C) "number" = some none)
    (g_LARGEST : Glo mg "LARGEST" (1048575)) (g_FEWEST : Glo mg "FEWEST" (2)) (g_MOST_STATIONS : Glo mg "MOST_STATIONS" (24)) (g_MOST_LEVELS : Glo mg "MOST_LEVELS" (16)) (g_BY_LEVEL : Glo mg "BY_LEVEL" (0)) (g_BY_STATION : Glo mg "BY_STATION" (1)) (g_MAKE : Glo mg "MAKE" (1)) (g_AT : Glo mg "AT" (2)) (g_NEAR : Glo mg "NEAR" (3)) (g_PIECE : Glo mg "PIECE" (4)) (g_BENDING : Glo mg "BENDING" (5)) (g_TURNS : Glo mg "TURNS" (6)) (g_TOP : Glo mg "TOP" (7)) (g_NO_TABLE : Glo mg "NO_TABLE" (-5)) (g_WRONG_NUMBER : Glo mg "WRONG_NUMBER" (-1)) (g_NO_SUCH_PLACE : Glo mg "NO_SUCH_PLACE" (-4)) (g_LARGEST_Q : Glo mg "LARGEST_Q" (1048576))
    (z_len : mg "len" = none) (z_range : mg "range" = none) (z_enumerate : mg "enumerate" = none) (z_abs : mg "abs" = none) (z_min : mg "min" = none) (z_max : mg "max" = none) :
    ∃ fd : FuncData, (∀ (s : Shared) (us : List Value), us.length = (["calls"] : List Str).length → BindsTo s fd ⟨us, []⟩ ((["calls"] : List Str).zip us)) ∧ ∀ base : Heap, K.In base → base.Ns mainGlobals mg → FnOk P w K mg base CX0 9 fa fd ["calls"] (spAns K okC) := by
  obtain ⟨f_product_of, d_product_of, m_product_of, F_product_of, b_product_of⟩ := q_product_of
  obtain ⟨f_kinks_of, d_kinks_of, m_kinks_of, F_kinks_of, b_kinks_of⟩ := q_kinks_of
  obtain ⟨f_eliminate, d_eliminate, m_eliminate, F_eliminate, b_eliminate⟩ := q_eliminate
  obtain ⟨f_sixths_of, d_sixths_of, m_sixths_of, F_sixths_of, b_sixths_of⟩ := q_sixths_of
  obtain ⟨f_common_divisor, d_common_divisor, m_common_divisor, F_common_divisor, b_common_divisor⟩ := q_common_divisor
  obtain ⟨f_lowest, d_lowest, m_lowest, F_lowest, b_lowest⟩ := q_lowest
  obtain ⟨f_ceiling, d_ceiling, m_ceiling, F_ceiling, b_ceiling⟩ := q_ceiling
  obtain ⟨f_nearest, d_nearest, m_nearest, F_nearest, b_nearest⟩ := q_nearest
  obtain ⟨f_signed_square, d_signed_square, m_signed_square, F_signed_square, b_signed_square⟩ := q_signed_square
  obtain ⟨f_root_ceiling, d_root_ceiling, m_root_ceiling, F_root_ceiling, b_root_ceiling⟩ := q_root_ceiling
  obtain ⟨f_has_crest, d_has_crest, m_has_crest, F_has_crest, b_has_crest⟩ := q_has_crest
  obtain ⟨f_crest_ceiling, d_crest_ceiling, m_crest_ceiling, F_crest_ceiling, b_crest_ceiling⟩ := q_crest_ceiling
  obtain ⟨f_first_not_rising, d_first_not_rising, m_first_not_rising, F_first_not_rising, b_first_not_rising⟩ := q_first_not_rising
  obtain ⟨f_first_no_breadth, d_first_no_breadth, m_first_no_breadth, F_first_no_breadth, b_first_no_breadth⟩ := q_first_no_breadth
  obtain ⟨f_verdict, d_verdict, m_verdict, F_verdict, b_verdict⟩ := q_verdict
  obtain ⟨f_answer_line_call, d_answer_line_call, m_answer_line_call, F_answer_line_call, b_answer_line_call⟩ := q_answer_line_call
  obtain ⟨f_answer_call, d_answer_call, m_answer_call, F_answer_call, b_answer_call⟩ := q_answer_call
  obtain ⟨f_answers, d_answers, m_answers, F_answers, b_answers⟩ := q_answers
  obtain ⟨C_Batten, m_Batten, T_Batten, ⟨i_Batten, di_Batten, M_Batten, Fi_Batten, bi_Batten⟩, ⟨f_covers_Batten, d_covers_Batten, M_covers_Batten, F_covers_Batten, b_covers_Batten⟩, ⟨f_has_cubic_Batten, d_has_cubic_Batten, M_has_cubic_Batten, F_has_cubic_Batten, b_has_cubic_Batten⟩, ⟨f_cubic_at_Batten, d_cubic_at_Batten, M_cubic_at_Batten, F_cubic_at_Batten, b_cubic_at_Batten⟩, ⟨f_cubic_Batten, d_cubic_Batten, M_cubic_Batten, F_cubic_Batten, b_cubic_Batten⟩, ⟨f_derived_Batten, d_derived_Batten, M_derived_Batten, F_derived_Batten, b_derived_Batten⟩, ⟨f_bending_Batten, d_bending_Batten, M_bending_Batten, F_bending_Batten, b_bending_Batten⟩, ⟨f_turns_Batten, d_turns_Batten, M_turns_Batten, F_turns_Batten, b_turns_Batten⟩, ⟨f_top_Batten, d_top_Batten, M_top_Batten, F_top_Batten, b_top_Batten⟩⟩ := c_Batten
  obtain ⟨C_Reader, m_Reader, T_Reader, ⟨i_Reader, di_Reader, M_Reader, Fi_Reader, bi_Reader⟩, ⟨f_ended_Reader, d_ended_Reader, M_ended_Reader, F_ended_Reader, b_ended_Reader⟩, ⟨f_number_Reader, d_number_Reader, M_number_Reader, F_number_Reader, b_number_Reader⟩, ⟨f_row_Reader, d_row_Reader, M_row_Reader, F_row_Reader, b_row_Reader⟩⟩ := c_Reader
  obtain ⟨C_Table, m_Table, T_Table, ⟨i_Table, di_Table, M_Table, Fi_Table, bi_Table⟩, ⟨f_has_line_Table, d_has_line_Table, M_has_line_Table, F_has_line_Table, b_has_line_Table⟩, ⟨f_nail_places_Table, d_nail_places_Table, M_nail_places_Table, F_nail_places_Table, b_nail_places_Table⟩, ⟨f_nail_breadths_Table, d_nail_breadths_Table, M_nail_breadths_Table, F_nail_breadths_Table, b_nail_breadths_Table⟩, no_number_Table, no_refusal_Table⟩ := c_Table
  obtain ⟨C_Desk, m_Desk, T_Desk, ⟨i_Desk, di_Desk, M_Desk, Fi_Desk, bi_Desk⟩, ⟨f_refusal_Desk, d_refusal_Desk, M_refusal_Desk, F_refusal_Desk, b_refusal_Desk⟩, ⟨f_batten_Desk, d_batten_Desk, M_batten_Desk, F_batten_Desk, b_batten_Desk⟩, ⟨f_make_Desk, d_make_Desk, M_make_Desk, F_make_Desk, b_make_Desk⟩, ⟨f_at_Desk, d_at_Desk, M_at_Desk, F_at_Desk, b_at_Desk⟩, ⟨f_near_Desk, d_near_Desk, M_near_Desk, F_near_Desk, b_near_Desk⟩, ⟨f_piece_Desk, d_piece_Desk, M_piece_Desk, F_piece_Desk, b_piece_Desk⟩, ⟨f_bending_Desk, d_bending_Desk, M_bending_Desk, F_bending_Desk, b_bending_Desk⟩, ⟨f_turns_Desk, d_turns_Desk, M_turns_Desk, F_turns_Desk, b_turns_Desk⟩, ⟨f_top_Desk, d_top_Desk, M_top_Desk, F_top_Desk, b_top_Desk⟩, no_number_Desk⟩ := c_Desk
  have e := hfa.symm.trans m_answers
  cases e
  refine ⟨d_answers, fun s us hu => ?_, fun base kb nb => ?_⟩
  · obtain ⟨oc, od, kV, doc, pm, an, cdv, ct, osl, rfl, _⟩ := F_answers.ex
    exact match us, hu with | [_], _ => .of_eq rfl
  have nCR : C_Desk ≠ C_Reader := meth_ne M_number_Reader no_number_Desk
  have nTR : C_Table ≠ C_Reader := meth_ne M_number_Reader no_number_Table
  have nTD : C_Table ≠ C_Desk := meth_ne M_refusal_Desk no_refusal_Table
  have hB : FnOk P w K mg base CX0 3 i_Batten di_Batten ["self", "xs", "ys"] (spBtInit K C_Batten) := ok_btInit Fi_Batten T_Batten F_product_of b_product_of m_product_of F_kinks_of b_kinks_of m_kinks_of F_eliminate b_eliminate m_eliminate F_sixths_of b_sixths_of m_sixths_of z_enumerate z_range z_len
  have D : DkK P w K mg base C_Desk C_Table C_Batten := {
    T := T_Desk
    TB := T_Batten
    ref := ⟨_, _, ok_dkRef F_refusal_Desk T_Desk T_Table F_has_line_Table b_has_line_Table M_has_line_Table z_len g_BY_LEVEL g_BY_STATION g_NO_TABLE g_WRONG_NUMBER g_NO_SUCH_PLACE, b_refusal_Desk, M_refusal_Desk⟩
    bat := ⟨_, _, ok_dkBat F_batten_Desk T_Desk T_Table T_Batten F_nail_places_Table b_nail_places_Table M_nail_places_Table F_nail_breadths_Table b_nail_breadths_Table M_nail_breadths_Table M_Batten hB bi_Batten m_Batten z_len g_BY_LEVEL, b_batten_Desk, M_batten_Desk⟩
    cov := ⟨_, _, ok_btCov F_covers_Batten T_Batten, b_covers_Batten, M_covers_Batten⟩
    has := ⟨_, _, ok_btHas F_has_cubic_Batten T_Batten z_len, b_has_cubic_Batten, M_has_cubic_Batten⟩
    cub := ⟨_, _, ok_btCub F_cubic_Batten T_Batten, b_cubic_Batten, M_cubic_Batten⟩
    der := ⟨_, _, ok_btDer F_derived_Batten T_Batten F_cubic_at_Batten b_cubic_at_Batten M_cubic_at_Batten F_cubic_Batten b_cubic_Batten M_cubic_Batten z_len, b_derived_Batten, M_derived_Batten⟩
    low := ⟨_, _, ok_low F_lowest F_common_divisor b_common_divisor m_common_divisor z_abs, b_lowest, m_lowest, F_lowest.kp⟩
    near := ⟨_, _, ok_near F_nearest, b_nearest, m_nearest, F_nearest.kp⟩
    g4 := g_NO_SUCH_PLACE
    gQ := g_LARGEST_Q }
  have hH : FnOk P w K mg base CX0 2 f_has_crest d_has_crest ["cubic", "gap"] (spHas K) := ok_has F_has_crest F_signed_square b_signed_square m_signed_square z_abs z_min z_max
  have hR : FnOk P w K mg base CX0 2 f_crest_ceiling d_crest_ceiling ["cubic"] (spCrest K) := ok_crest F_crest_ceiling F_ceiling b_ceiling m_ceiling F_root_ceiling b_root_ceiling m_root_ceiling
  have DE : DkE P w K mg base C_Desk C_Table C_Batten := {
    T := T_Desk
    TB := T_Batten
    ref := D.ref
    bat := D.bat
    bend := ⟨_, _, ok_btBend F_bending_Batten T_Batten z_enumerate, b_bending_Batten, M_bending_Batten⟩
    turn := ⟨_, _, ok_btTurn F_turns_Batten T_Batten z_range z_len, b_turns_Batten, M_turns_Batten⟩
    top := ⟨_, _, ok_btTop F_top_Batten T_Batten F_cubic_Batten b_cubic_Batten M_cubic_Batten hH b_has_crest m_has_crest F_has_crest.kp hR b_crest_ceiling m_crest_ceiling F_crest_ceiling.kp z_enumerate z_max, b_top_Batten, M_top_Batten⟩
    low := D.low }
  have hV : FnOk P w K mg base CX0 2 f_verdict d_verdict ["places", "heights", "breadths"] (spVer K) := ok_ver F_verdict F_first_not_rising b_first_not_rising m_first_not_rising F_first_no_breadth b_first_no_breadth m_first_no_breadth z_enumerate z_len g_LARGEST g_FEWEST g_MOST_STATIONS g_MOST_LEVELS
  have A : AnK P w K mg base C_Desk C_Table C_Reader := {
    T := T_Desk
    R := T_Reader
    n1 := nCR
    n2 := nTR
    num := ⟨_, _, ok_rdNum F_number_Reader T_Reader, b_number_Reader, M_number_Reader⟩
    row := ⟨_, _, ok_rdRow F_row_Reader T_Reader F_number_Reader b_number_Reader M_number_Reader, b_row_Reader, M_row_Reader⟩
    make := ⟨_, _, ok_dkMake F_make_Desk T_Desk T_Table nTD hV F_verdict.kp b_verdict m_verdict M_Table Fi_Table bi_Table m_Table, b_make_Desk, M_make_Desk⟩
    at_ := ⟨_, _, ok_dkAt F_at_Desk D, b_at_Desk, M_at_Desk⟩
    near := ⟨_, _, ok_dkNear F_near_Desk D, b_near_Desk, M_near_Desk⟩
    piece := ⟨_, _, ok_dkPiece F_piece_Desk D, b_piece_Desk, M_piece_Desk⟩
    bend := ⟨_, _, ok_dkBend F_bending_Desk DE, b_bending_Desk, M_bending_Desk⟩
    turn := ⟨_, _, ok_dkTurn F_turns_Desk DE, b_turns_Desk, M_turns_Desk⟩
    top := ⟨_, _, ok_dkTop F_top_Desk DE, b_top_Desk, M_top_Desk⟩ }
  have hL := ok_line F_answer_line_call A g_AT g_NEAR g_PIECE g_BENDING g_TURNS g_TOP
  have hC := ok_call F_answer_call A hL b_answer_line_call m_answer_line_call F_answer_line_call.kp g_MAKE
  exact ok_ans F_answers A hC b_answer_call m_answer_call F_answer_call.kp M_Desk Fi_Desk bi_Desk m_Desk M_Reader Fi_Reader bi_Reader m_Reader F_ended_Reader b_ended_Reader M_ended_Reader z_len
end PB
/-! Plain numbers at names that the head would give to twins of the heaps between the top's statements. A twin is the same heap in another spelling, with a proof that they are equal; these proofs grow with the square of the heap and would make the compiled file larger than a hand-in's may be. Where the name is taken the head goes on without the twin. -/
def PySem.W.Fast.tw3919476815807225914 : Nat := 0
def PySem.W.Fast.tw11095989227211013559 : Nat := 0
def PySem.W.Fast.tw10851889551092430693 : Nat := 0
def PySem.W.Fast.tw11490680859176118367 : Nat := 0
def PySem.W.Fast.tw6146872639258539346 : Nat := 0
def PySem.W.Fast.tw16242637805893238007 : Nat := 0
def PySem.W.Fast.tw15807690963705994781 : Nat := 0
def PySem.W.Fast.tw18146289852171799268 : Nat := 0
def PySem.W.Fast.tw17875147463235296761 : Nat := 0
open PySem PySem.W PyProof.Rows
set_option maxRecDepth 100000 in
set_option maxHeartbeats 0 in
theorem PySem.Challenge.cw_battenlath_s01_answers_holds : PySem.Challenge.rw_battenlath_s01_answers.Holds := by
  w_on; k_headS; (case hw => exact ⟨[.list [.int 5, .int 0, .int 0]], by decide +kernel, by decide +kernel⟩)
  k_fillS
  refine L2.walk_specK (r := PySem.Challenge.rw_battenlath_s01_answers) (k := 9) (CX := L2.CX0) (ps := ["calls"]) (sp := fun K => PB.spAns K PB.okC) (by decide +kernel) rfl rfl ⟨rfl, by decide, by decide⟩ (fun w h Y => PySem.W.kIn_of Y) ?F ?S (fun _ _ _ _ z => z)
  case F =>
    intro w mg fa h Y KX G hmg
    have q_product_of := by
      refine' PB.fg_product_of KX G ?a ?l ?c ?k
      (case a => k_is); (case l => k_is); (case c => k_is); (case k => k_is)
    have q_kinks_of := by
      refine' PB.fg_kinks_of KX G ?a ?l ?c ?k
      (case a => k_is); (case l => k_is); (case c => k_is); (case k => k_is)
    have q_eliminate := by
      refine' PB.fg_eliminate KX G ?a ?l ?c ?k
      (case a => k_is); (case l => k_is); (case c => k_is); (case k => k_is)
    have q_sixths_of := by
      refine' PB.fg_sixths_of KX G ?a ?l ?c ?k
      (case a => k_is); (case l => k_is); (case c => k_is); (case k => k_is)
    have q_common_divisor := by
      refine' PB.fg_common_divisor KX G ?a ?l ?c ?k
      (case a => k_is); (case l => k_is); (case c => k_is); (case k => k_is)
    have q_lowest := by
      refine' PB.fg_lowest KX G ?a ?l ?c ?k
      (case a => k_is); (case l => k_is); (case c => k_is); (case k => k_is)
    have q_ceiling := by
      refine' PB.fg_ceiling KX G ?a ?l ?c ?k
      (case a => k_is); (case l => k_is); (case c => k_is); (case k => k_is)
    have q_nearest := by
      refine' PB.fg_nearest KX G ?a ?l ?c ?k
      (case a => k_is); (case l => k_is); (case c => k_is); (case k => k_is)
    have q_signed_square := by
      refine' PB.fg_signed_square KX G ?a ?l ?c ?k
      (case a => k_is); (case l => k_is); (case c => k_is); (case k => k_is)
    have q_root_ceiling := by
      refine' PB.fg_root_ceiling KX G ?a ?l ?c ?k
      (case a => k_is); (case l => k_is); (case c => k_is); (case k => k_is)
    have q_has_crest := by
      refine' PB.fg_has_crest KX G ?a ?l ?c ?k
      (case a => k_is); (case l => k_is); (case c => k_is); (case k => k_is)
    have q_crest_ceiling := by
      refine' PB.fg_crest_ceiling KX G ?a ?l ?c ?k
      (case a => k_is); (case l => k_is); (case c => k_is); (case k => k_is)
    have q_first_not_rising := by
      refine' PB.fg_first_not_rising KX G ?a ?l ?c ?k
      (case a => k_is); (case l => k_is); (case c => k_is); (case k => k_is)
    have q_first_no_breadth := by
      refine' PB.fg_first_no_breadth KX G ?a ?l ?c ?k
      (case a => k_is); (case l => k_is); (case c => k_is); (case k => k_is)
    have q_verdict := by
      refine' PB.fg_verdict KX G ?a ?l ?c ?k
      (case a => k_is); (case l => k_is); (case c => k_is); (case k => k_is)
    have q_answer_line_call := by
      refine' PB.fg_answer_line_call KX G ?a ?l ?c ?k
      (case a => k_is); (case l => k_is); (case c => k_is); (case k => k_is)
    have q_answer_call := by
      refine' PB.fg_answer_call KX G ?a ?l ?c ?k
      (case a => k_is); (case l => k_is); (case c => k_is); (case k => k_is)
    have q_answers := by
      refine' PB.fg_answers KX G ?a ?l ?c ?k
      (case a => k_is); (case l => k_is); (case c => k_is); (case k => k_is)
    have c_Batten := by
      refine' PB.cg_Batten KX G ?aC ?a0 ?i0 ?l0 ?c0 ?k0 ?a1 ?i1 ?l1 ?c1 ?k1 ?a2 ?i2 ?l2 ?c2 ?k2 ?a3 ?i3 ?l3 ?c3 ?k3 ?a4 ?i4 ?l4 ?c4 ?k4 ?a5 ?i5 ?l5 ?c5 ?k5 ?a6 ?i6 ?l6 ?c6 ?k6 ?a7 ?i7 ?l7 ?c7 ?k7 ?a8 ?i8 ?l8 ?c8 ?k8 ?pg ?hd ?po ?sa ?mk ?kc ?n0 ?n1 ?n2 ?n3 ?n4
      (case aC => k_is); (case a0 => k_is); (case i0 => k_is); (case l0 => k_is); (case c0 => k_is); (case k0 => k_is); (case a1 => k_is); (case i1 => k_is); (case l1 => k_is); (case c1 => k_is); (case k1 => k_is); (case a2 => k_is); (case i2 => k_is); (case l2 => k_is); (case c2 => k_is); (case k2 => k_is); (case a3 => k_is); (case i3 => k_is); (case l3 => k_is); (case c3 => k_is); (case k3 => k_is); (case a4 => k_is); (case i4 => k_is); (case l4 => k_is); (case c4 => k_is); (case k4 => k_is); (case a5 => k_is); (case i5 => k_is); (case l5 => k_is); (case c5 => k_is); (case k5 => k_is); (case a6 => k_is); (case i6 => k_is); (case l6 => k_is); (case c6 => k_is); (case k6 => k_is); (case a7 => k_is); (case i7 => k_is); (case l7 => k_is); (case c7 => k_is); (case k7 => k_is); (case a8 => k_is); (case i8 => k_is); (case l8 => k_is); (case c8 => k_is); (case k8 => k_is); (case pg => k_is); (case hd => k_is); (case po => k_is); (case sa => k_is); (case mk => k_is); (case kc => k_is); (case n0 => k_is); (case n1 => k_is); (case n2 => k_is); (case n3 => k_is); (case n4 => k_is)
    have c_Reader := by
      refine' PB.cg_Reader KX G ?aC ?a0 ?i0 ?l0 ?c0 ?k0 ?a1 ?i1 ?l1 ?c1 ?k1 ?a2 ?i2 ?l2 ?c2 ?k2 ?a3 ?i3 ?l3 ?c3 ?k3 ?pg ?hd ?po ?sa ?mk ?kc ?n0 ?n1
      (case aC => k_is); (case a0 => k_is); (case i0 => k_is); (case l0 => k_is); (case c0 => k_is); (case k0 => k_is); (case a1 => k_is); (case i1 => k_is); (case l1 => k_is); (case c1 => k_is); (case k1 => k_is); (case a2 => k_is); (case i2 => k_is); (case l2 => k_is); (case c2 => k_is); (case k2 => k_is); (case a3 => k_is); (case i3 => k_is); (case l3 => k_is); (case c3 => k_is); (case k3 => k_is); (case pg => k_is); (case hd => k_is); (case po => k_is); (case sa => k_is); (case mk => k_is); (case kc => k_is); (case n0 => k_is); (case n1 => k_is)
    have c_Table := by
      refine' PB.cg_Table KX G ?aC ?a0 ?i0 ?l0 ?c0 ?k0 ?a1 ?i1 ?l1 ?c1 ?k1 ?a2 ?i2 ?l2 ?c2 ?k2 ?a3 ?i3 ?l3 ?c3 ?k3 ?pg ?hd ?po ?sa ?mk ?kc ?n0 ?n1 ?n2 ?n3 ?n4
      (case aC => k_is); (case a0 => k_is); (case i0 => k_is); (case l0 => k_is); (case c0 => k_is); (case k0 => k_is); (case a1 => k_is); (case i1 => k_is); (case l1 => k_is); (case c1 => k_is); (case k1 => k_is); (case a2 => k_is); (case i2 => k_is); (case l2 => k_is); (case c2 => k_is); (case k2 => k_is); (case a3 => k_is); (case i3 => k_is); (case l3 => k_is); (case c3 => k_is); (case k3 => k_is); (case pg => k_is); (case hd => k_is); (case po => k_is); (case sa => k_is); (case mk => k_is); (case kc => k_is); (case n0 => k_is); (case n1 => k_is); (case n2 => k_is); (case n3 => k_is); (case n4 => k_is)
    have c_Desk := by
      refine' PB.cg_Desk KX G ?aC ?a0 ?i0 ?l0 ?c0 ?k0 ?a1 ?i1 ?l1 ?c1 ?k1 ?a2 ?i2 ?l2 ?c2 ?k2 ?a3 ?i3 ?l3 ?c3 ?k3 ?a4 ?i4 ?l4 ?c4 ?k4 ?a5 ?i5 ?l5 ?c5 ?k5 ?a6 ?i6 ?l6 ?c6 ?k6 ?a7 ?i7 ?l7 ?c7 ?k7 ?a8 ?i8 ?l8 ?c8 ?k8 ?a9 ?i9 ?l9 ?c9 ?k9 ?pg ?hd ?po ?sa ?mk ?kc ?n0 ?n1
      (case aC => k_is); (case a0 => k_is); (case i0 => k_is); (case l0 => k_is); (case c0 => k_is); (case k0 => k_is); (case a1 => k_is); (case i1 => k_is); (case l1 => k_is); (case c1 => k_is); (case k1 => k_is); (case a2 => k_is); (case i2 => k_is); (case l2 => k_is); (case c2 => k_is); (case k2 => k_is); (case a3 => k_is); (case i3 => k_is); (case l3 => k_is); (case c3 => k_is); (case k3 => k_is); (case a4 => k_is); (case i4 => k_is); (case l4 => k_is); (case c4 => k_is); (case k4 => k_is); (case a5 => k_is); (case i5 => k_is); (case l5 => k_is); (case c5 => k_is); (case k5 => k_is); (case a6 => k_is); (case i6 => k_is); (case l6 => k_is); (case c6 => k_is); (case k6 => k_is); (case a7 => k_is); (case i7 => k_is); (case l7 => k_is); (case c7 => k_is); (case k7 => k_is); (case a8 => k_is); (case i8 => k_is); (case l8 => k_is); (case c8 => k_is); (case k8 => k_is); (case a9 => k_is); (case i9 => k_is); (case l9 => k_is); (case c9 => k_is); (case k9 => k_is); (case pg => k_is); (case hd => k_is); (case po => k_is); (case sa => k_is); (case mk => k_is); (case kc => k_is); (case n0 => k_is); (case n1 => k_is)
    have g_LARGEST : PB.Glo mg "LARGEST" (1048575) := by
      refine' PB.gg KX G ?a
      (case a => k_is)
    have g_FEWEST : PB.Glo mg "FEWEST" (2) := by
      refine' PB.gg KX G ?a
      (case a => k_is)
    have g_MOST_STATIONS : PB.Glo mg "MOST_STATIONS" (24) := by
      refine' PB.gg KX G ?a
      (case a => k_is)
    have g_MOST_LEVELS : PB.Glo mg "MOST_LEVELS" (16) := by
      refine' PB.gg KX G ?a
      (case a => k_is)
    have g_BY_LEVEL : PB.Glo mg "BY_LEVEL" (0) := by
      refine' PB.gg KX G ?a
      (case a => k_is)
    have g_BY_STATION : PB.Glo mg "BY_STATION" (1) := by
      refine' PB.gg KX G ?a
      (case a => k_is)
    have g_MAKE : PB.Glo mg "MAKE" (1) := by
      refine' PB.gg KX G ?a
      (case a => k_is)
    have g_AT : PB.Glo mg "AT" (2) := by
      refine' PB.gg KX G ?a
      (case a => k_is)
    have g_NEAR : PB.Glo mg "NEAR" (3) := by
      refine' PB.gg KX G ?a
      (case a => k_is)
    have g_PIECE : PB.Glo mg "PIECE" (4) := by
      refine' PB.gg KX G ?a
      (case a => k_is)
    have g_BENDING : PB.Glo mg "BENDING" (5) := by
      refine' PB.gg KX G ?a
      (case a => k_is)
    have g_TURNS : PB.Glo mg "TURNS" (6) := by
      refine' PB.gg KX G ?a
      (case a => k_is)
    have g_TOP : PB.Glo mg "TOP" (7) := by
      refine' PB.gg KX G ?a
      (case a => k_is)
    have g_NO_TABLE : PB.Glo mg "NO_TABLE" (-5) := by
      refine' PB.gg KX G ?a
      (case a => k_is)
    have g_WRONG_NUMBER : PB.Glo mg "WRONG_NUMBER" (-1) := by
      refine' PB.gg KX G ?a
      (case a => k_is)
    have g_NO_SUCH_PLACE : PB.Glo mg "NO_SUCH_PLACE" (-4) := by
      refine' PB.gg KX G ?a
      (case a => k_is)
    have g_LARGEST_Q : PB.Glo mg "LARGEST_Q" (1048576) := by
      refine' PB.gg KX G ?a
      (case a => k_is)
    have z_len : mg "len" = none := by
      refine' PySem.W.mg_none_of KX G ?a
      (case a => k_is)
    have z_range : mg "range" = none := by
      refine' PySem.W.mg_none_of KX G ?a
      (case a => k_is)
    have z_enumerate : mg "enumerate" = none := by
      refine' PySem.W.mg_none_of KX G ?a
      (case a => k_is)
    have z_abs : mg "abs" = none := by
      refine' PySem.W.mg_none_of KX G ?a
      (case a => k_is)
    have z_min : mg "min" = none := by
      refine' PySem.W.mg_none_of KX G ?a
      (case a => k_is)
    have z_max : mg "max" = none := by
      refine' PySem.W.mg_none_of KX G ?a
      (case a => k_is)
    exact PB.all_ok hmg q_product_of q_kinks_of q_eliminate q_sixths_of q_common_divisor q_lowest q_ceiling q_nearest q_signed_square q_root_ceiling q_has_crest q_crest_ceiling q_first_not_rising q_first_no_breadth q_verdict q_answer_line_call q_answer_call q_answers c_Batten c_Reader c_Table c_Desk g_LARGEST g_FEWEST g_MOST_STATIONS g_MOST_LEVELS g_BY_LEVEL g_BY_STATION g_MAKE g_AT g_NEAR g_PIECE g_BENDING g_TURNS g_TOP g_NO_TABLE g_WRONG_NUMBER g_NO_SUCH_PLACE g_LARGEST_Q z_len z_range z_enumerate z_abs z_min z_max
  case S =>
    intro K H xs a hO hwi hask hx
    cases hx with
    | cons h1 h2 =>
      cases h2
      cases h1 with
      | lst hs ha =>
        have e := L2.ints_dw a.1 _ ha
        subst e
        have q : ((Codec.inLen 0 16000 a.1 && a.1.all (Codec.inInt (-9223372036854775808) 9223372036854775807)) && true) = true := hwi
        rw [Bool.and_eq_true, Bool.and_eq_true] at q
        have hlen := (Codec.inNat_iff.mp q.1.1).2
        obtain ⟨cs, e1, e2, e3, e4⟩ := BM.asked_put (l := a.1) hask
        refine ⟨_, cs, rfl, by rw [← e1]; exact hs, by rw [← e1]; exact hlen, fun c hc => ?_, e3, fun p H' hp => ?_⟩
        · obtain ⟨cc, hcc⟩ := BM.callIs (e2 c hc)
          exact ⟨cc, hcc, PB.okC_all hcc⟩
        · refine .lst (L2.SqL.of hp) ?_
          have := L2.dw_ints (K := K) (H := H') (PyWqlftb.answers a.1)
          rw [e4] at this
          rw [← e4]
          exact L2.dw_ints _

