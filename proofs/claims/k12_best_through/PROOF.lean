import PyProof.Rows.All
import Wide.All
import OpenK.AllK
import Wide.FinOn
import Lean
import PyProof.EqAt
import PyProof.EqKinds
import PyProof.TupleCall
import PySem.Challenge.RW_quotefind_k12_best_through
set_option Elab.async false
set_option linter.all false
set_option maxRecDepth 100000
/-! THE HAND LAYER, for ints, bools, texts, own classes, LISTS and tuples (index, slices, in, append, pop ..), calls, loops. Paste it whole ahead of your own text; what your proof does not reach may be deleted. -/
namespace L2
open PySem PySem.Spec PyProof.Rows

/-- a key: an int or a str -/
abbrev Key := Sum Int Str
def keyIs : Key → Value → Bool
  | .inl k, v => Value.isInt k v
  | .inr x, v => Value.isStrOf x v
def keyH (w : World) : Key → Int
  | .inl k => hashInt k
  | .inr x => hashStr w x
theorem keyIs_shape : ∀ {k : Key} {v : Value}, keyIs k v = true → (∃ i t, k = Sum.inl i ∧ v = Value.int i t) ∨ (∃ x t, k = Sum.inr x ∧ v = Value.str x t)
  | .inl i, v, h => by
    obtain ⟨t, e⟩ := Value.isInt_shape (k := i) (v := v) h
    exact .inl ⟨i, t, rfl, e⟩
  | .inr x, v, h => by
    obtain ⟨t, e⟩ := Value.isStrOf_shape (x := x) (v := v) h
    exact .inr ⟨x, t, rfl, e⟩
theorem keyIs_int (i : Int) (t : Tok) : keyIs (.inl i) (.int i t) = true := by simp [keyIs, Value.isInt]
theorem keyIs_str (x : Str) (t : Tok) : keyIs (.inr x) (.str x t) = true := by simp [keyIs, Value.isStrOf]
theorem key_ll (a b : Int) : decide ((Sum.inl a : Key) = Sum.inl b) = (a == b) := by
  by_cases e : a = b
  · subst e; simp
  · have h : ¬ (Sum.inl a : Key) = Sum.inl b := fun q => e (Sum.inl.inj q)
    rw [decide_eq_false h]
    exact (beq_eq_false_iff_ne.mpr e).symm
theorem key_rr (a b : Str) : decide ((Sum.inr a : Key) = Sum.inr b) = decide (a = b) := by
  by_cases e : a = b
  · subst e; simp
  · have h : ¬ (Sum.inr a : Key) = Sum.inr b := fun q => e (Sum.inr.inj q)
    rw [decide_eq_false h, decide_eq_false e]
theorem key_lr (a : Int) (b : Str) : decide ((Sum.inl a : Key) = Sum.inr b) = false := decide_eq_false (fun q => nomatch q)
theorem key_rl (a : Str) (b : Int) : decide ((Sum.inr a : Key) = Sum.inl b) = false := decide_eq_false (fun q => nomatch q)

def mixKind (prog : Program) (w : World) : PySem.KeyKind prog w Key where
  is := keyIs
  hash := keyH w
  inj := fun v a b ha hb => by
    rcases keyIs_shape ha with ⟨i, t, rfl, rfl⟩ | ⟨x, t, rfl, rfl⟩
    · rcases keyIs_shape hb with ⟨j, u, rfl, e⟩ | ⟨y, u, rfl, e⟩
      · injection e with e1 _; rw [e1]
      · exact nomatch e
    · rcases keyIs_shape hb with ⟨j, u, rfl, e⟩ | ⟨y, u, rfl, e⟩
      · exact nomatch e
      · injection e with e1 _; rw [e1]
  byValue := fun k v h => by
    rcases keyIs_shape h with ⟨i, t, rfl, rfl⟩ | ⟨x, t, rfl, rfl⟩ <;> rfl
  pyHash := fun hv h => by
    rcases keyIs_shape hv with ⟨i, t, rfl, rfl⟩ | ⟨x, t, rfl, rfl⟩
    · exact wpAny_pyHash_int h
    · exact wpAny_pyHash_str h
  eqBool := fun hu hv h => by
    rcases keyIs_shape hu with ⟨i, t, rfl, rfl⟩ | ⟨x, t, rfl, rfl⟩
    · rcases keyIs_shape hv with ⟨j, u, rfl, rfl⟩ | ⟨y, u, rfl, rfl⟩
      · rw [key_ll] at h; exact wpAny_eqBool_int h
      · rw [key_lr] at h; exact SeqAt.EqAt.int_str i t y u _ _ _ _ h
    · rcases keyIs_shape hv with ⟨j, u, rfl, rfl⟩ | ⟨y, u, rfl, rfl⟩
      · rw [key_rl] at h; exact SeqAt.EqAt.str_int x t j u _ _ _ _ h
      · rw [key_rr] at h; exact wpAny_eqBool_str h
  «strs» := fun k x t v h => by
    rcases keyIs_shape h with ⟨i, u, rfl, e⟩ | ⟨y, u, rfl, e⟩
    · exact nomatch e
    · injection e with e1 _
      subst e1
      cases v <;> rfl

theorem mixKind_int (prog : Program) (w : World) (i : Int) (t : Tok) : (mixKind prog w).is (.inl i) (.int i t) = true := keyIs_int i t
theorem mixKind_str (prog : Program) (w : World) (x : Str) (t : Tok) : (mixKind prog w).is (.inr x) (.str x t) = true := keyIs_str x t
end L2

namespace L2
open PySem PySem.Spec PyProof.Rows

/-- a value, without the heap -/
inductive V where
  | non | bl (b : Bool) | int (i : Int) | str (x : Str) | byt (b : Array UInt8) | flt (b : UInt64) | ref (a : Addr) | ty (n : String)
  deriving DecidableEq

def RelV : V → Value → Prop
  | .non, u => u = Value.none
  | .bl b, u => u = Value.bool b
  | .int i, u => ∃ t, u = Value.int i t
  | .str x, u => ∃ t, u = Value.str x t
  | .byt b, u => ∃ t, u = Value.bytes b t
  | .flt b, u => ∃ t, u = Value.float b t
  | .ref a, u => u = Value.ref a
  | .ty n, u => u = Value.type n

abbrev Vals : List V → List Value → Prop := Paired RelV
theorem Vals.length {xs : List V} {us : List Value} (r : Vals xs us) : xs.length = us.length := Paired.length r
theorem Vals.get : ∀ {xs : List V} {us : List Value} {i : Nat} {x : V}, Vals xs us → xs[i]? = some x → ∃ u, us[i]? = some u ∧ RelV x u
  | _, _, _, _, .nil, e => by simp at e
  | _, _, 0, _, .cons r _, e => by simp at e; subst e; exact ⟨_, rfl, r⟩
  | _, _, i + 1, x, .cons _ t, e => by
    obtain ⟨u, h1, h2⟩ := Vals.get (i := i) (x := x) t (by simpa using e)
    exact ⟨u, by simpa using h1, h2⟩
theorem Vals.set {x : V} {u : Value} (r : RelV x u) : ∀ {xs : List V} {us : List Value} (i : Nat), Vals xs us → Vals (xs.set i x) (us.set i u)
  | _, _, _, .nil => .nil
  | _, _, 0, .cons _ t => .cons r t
  | _, _, i + 1, .cons q t => .cons q (Vals.set r i t)
theorem Vals.append : ∀ {xs ys : List V} {us ws : List Value}, Vals xs us → Vals ys ws → Vals (xs ++ ys) (us ++ ws)
  | _, _, _, _, .nil, s => s
  | _, _, _, _, .cons r t, s => .cons r (Vals.append t s)
theorem Vals.take : ∀ {xs : List V} {us : List Value} (n : Nat), Vals xs us → Vals (xs.take n) (us.take n)
  | _, _, 0, _ => .nil
  | _, _, _ + 1, .nil => .nil
  | _, _, n + 1, .cons r t => .cons r (Vals.take n t)
theorem Vals.drop : ∀ {xs : List V} {us : List Value} (n : Nat), Vals xs us → Vals (xs.drop n) (us.drop n)
  | _, _, 0, r => r
  | _, _, _ + 1, .nil => .nil
  | _, _, n + 1, .cons _ t => Vals.drop n t
def RelO : Option V → Option Value → Prop
  | some v, some u => RelV v u
  | none, none => True
  | _, _ => False
def KV {κ : Type} : List (κ × V) → List (κ × Value) → Prop := Paired fun (p : κ × V) (q : κ × Value) => p.1 = q.1 ∧ RelV p.2 q.2

/-- a key of a dict (00_mix): an int or a text -/
def kV : Key → V
  | .inl i => .int i
  | .inr x => .str x

/-- what stands at a tracked address -/
inductive HO where
  /-- a list -/
  | lst (xs : List V)
  /-- a tuple (never changes) -/
  | tup (xs : List V)
  /-- a dict whose keys are ints and texts; one whose keys are tuples of ints and texts (the empty one is both) -/
  | dK (kvs : List (Key × V)) | dT (kvs : List (List Key × V))
  /-- a set of ints: its members, its size -/
  | set (S : Int → Bool) (n : Nat)
  /-- an instance of the class at C, its dict at dx, its attributes -/
  | ins (C dx : Addr) (fs : List (Str × V))
  /-- the dict of the instance at x -/
  | own (x : Addr)
  /-- the dict of an exception -/
  | xd (fs : List (Str × V))
  /-- a bound method, f of x -/
  | met (f x : Addr)
  /-- a range object lo, lo + 1, .. below hi -/
  | rng (lo hi : Int)
  /-- a thing that is known to the object (the script; a dict while a loop walks it): read, never written while it is so -/
  | frz (o : Obj) (u : HO)
  /-- a code object's table -/
  | tbl (ps : Array Value)
  /-- any other thing, by what is true of its one object (a def of one's own: SetO a S n := HO.ext fun h => ..) -/
  | ext (φ : Heap → Prop)

abbrev Hp := Addr → Option HO
def upd (H : Hp) (a : Addr) (o : HO) : Hp := fun b => if b = a then some o else H b
theorem upd_same {H : Hp} {a : Addr} {o : HO} : upd H a o a = some o := by unfold upd; rw [if_pos rfl]
theorem upd_ne {H : Hp} {a b : Addr} {o : HO} (h : b ≠ a) : upd H a o b = H b := by unfold upd; rw [if_neg h]
theorem upd_upd {H : Hp} {a : Addr} {o u : HO} : upd (upd H a o) a u = upd H a u := by
  funext b; unfold upd; split <;> rfl
/-- two objects of different content stand apart -/
theorem ne_of {H : Hp} {a b : Addr} {o u : HO} (h : H a = some o) (h' : H b = some u) (d : o ≠ u) : a ≠ b := by
  intro e; subst e; rw [h] at h'; exact d (Option.some.inj h')
theorem ne_of_none {H : Hp} {a b : Addr} {o : HO} (h : H a = some o) (h' : H b = none) : a ≠ b := by
  intro e; subst e; rw [h] at h'; cases h'

section
variable (P : Program) (w : World)
def ObjOk (H : Hp) (h : Heap) (a : Addr) : HO → Prop
  | .lst xs => xs.length ≤ sizeLine ∧ ∃ (its : List Value) (n : Nat), Vals xs its ∧ h.get? a = some { cls := .type "list", data := .seq its.toArray n }
  | .tup xs => xs.length ≤ sizeLine ∧ ∃ its : List Value, Vals xs its ∧ IsTup h a its.toArray
  | .dK kvs => kvs.length ≤ sizeLine ∧ (a == sysModules) = false ∧ ∃ vs, KV kvs vs ∧ h.DictOf (mixKind P w) a vs
  | .dT kvs => kvs.length ≤ sizeLine ∧ (a == sysModules) = false ∧ ∃ xs : List (List Key × Addr × Value),
      Paired (fun (p : List Key × V) (q : List Key × Addr × Value) => p.1 = q.1 ∧ H q.2.1 = some (.tup (p.1.map kV)) ∧ RelV p.2 q.2.2) kvs xs ∧
      ∃ o es ep, h.get? a = some o ∧ o.ExactDict ∧ o.data = .dict es ep ∧ es.toList = xs.map (entryOfKey (tupleKind (mixKind P w))) ∧ (xs.map (·.1)).Nodup
  | .set S n => h.SetOf (intKind P w) a S n
  | .ins C dx fs => H dx = some (.own a) ∧ fs.length ≤ 1000 ∧ dx ≠ a ∧ h.get? a = some (PySem.W.instObj C dx) ∧
      ∃ mA, h.Ns1 dx mA ∧ (∀ f, RelO (fs.lookup f) (mA f)) ∧ PySem.Within mA (fs.map (·.1))
  | .own _ => ∃ o, h.get? a = some o
  | .xd fs => ∃ mA, h.Ns1 a mA ∧ ∀ f, RelO (fs.lookup f) (mA f)
  | .rng lo hi => ∃ t u v, h.get? a = some { cls := .type "range", data := .fields #[.int lo t, .int hi u, .int 1 v] }
  | .frz o u => h.get? a = some o ∧ ObjOk H h a u
  | .tbl ps => h.get? a = some { cls := .none, data := .fields ps }
  | .met f x => h.get? a = some (PySem.W.methodObj (.ref f) (.ref x))
  | .ext φ => φ h ∧ (∃ o, h.get? a = some o) ∧ ∀ h1 h2 : Heap, φ h1 → (∀ o, h1.get? a = some o → h2.get? a = some o) → φ h2
/-- the abstract heap is held -/
def HOk (H : Hp) (h : Heap) : Prop := ∀ a o, H a = some o → ObjOk P w H h a o
end

section
variable {P : Program} {w : World} {H H' : Hp} {h h' : Heap} {a : Addr} {o : HO}
theorem ObjOk.lt (x : ObjOk P w H h a o) : a < h.objs.size := by
  cases o with
  | lst xs => obtain ⟨_, _, _, _, e⟩ := x; exact Heap.lt_size e
  | tup xs => obtain ⟨_, _, _, p⟩ := x; exact p.lt
  | dK kvs => obtain ⟨_, _, _, _, o, _, _, e, _⟩ := x; exact Heap.lt_size e
  | dT kvs => obtain ⟨_, _, _, _, o, _, _, e, _⟩ := x; exact Heap.lt_size e
  | set S n => obtain ⟨o, _, _, _, e, _⟩ := x; exact Heap.lt_size e
  | ins C dx fs => obtain ⟨_, _, _, e, _⟩ := x; exact Heap.lt_size e
  | own y => obtain ⟨_, e⟩ := x; exact Heap.lt_size e
  | xd fs => obtain ⟨_, ⟨_, _, _, e, _⟩, _⟩ := x; exact Heap.lt_size e
  | rng lo hi => obtain ⟨_, _, _, e⟩ := x; exact Heap.lt_size e
  | frz ob u => obtain ⟨e, _⟩ := x; exact Heap.lt_size e
  | tbl ps => exact Heap.lt_size (show h.get? a = some _ from x)
  | met f y => exact Heap.lt_size (show h.get? a = some _ from x)
  | ext φ => obtain ⟨_, ⟨_, e⟩, _⟩ := x; exact Heap.lt_size e
theorem Paired.mapP {α β : Type} {F G : α → β → Prop} : ∀ {l₁ : List α} {l₂ : List β}, Paired F l₁ l₂ → (∀ a b, F a b → G a b) → Paired G l₁ l₂
  | _, _, .nil, _ => .nil
  | _, _, .cons r t, f => .cons (f _ _ r) (Paired.mapP t f)
/-- what an object's description leans on: its own object, its own dict, the tuples -/
theorem ObjOk.stay (x : ObjOk P w H h a o) (k : ∀ b u, (b = a ∨ H b = some (.own a)) → h.get? b = some u → h'.get? b = some u)
    (ho : ∀ b, H b = some (.own a) → H' b = some (.own a)) (ht : ∀ b xs, H b = some (.tup xs) → H' b = some (.tup xs)) : ObjOk P w H' h' a o := by
  induction o with
  | lst xs => obtain ⟨z, its, n, r, e⟩ := x; exact ⟨z, its, n, r, k _ _ (.inl rfl) e⟩
  | tup xs => obtain ⟨z, its, r, ob, e, c⟩ := x; exact ⟨z, its, r, ob, k _ _ (.inl rfl) e, c⟩
  | dK kvs => obtain ⟨z, y, vs, r, ob, es, ep, e, c⟩ := x; exact ⟨z, y, vs, r, ob, es, ep, k _ _ (.inl rfl) e, c⟩
  | dT kvs =>
    obtain ⟨z, y, xs, r, ob, es, ep, e, c⟩ := x
    exact ⟨z, y, xs, Paired.mapP r fun p q z => ⟨z.1, ht _ _ z.2.1, z.2.2⟩, ob, es, ep, k _ _ (.inl rfl) e, c⟩
  | set S n => obtain ⟨ob, es, ep, t, e, c⟩ := x; exact ⟨ob, es, ep, t, k _ _ (.inl rfl) e, c⟩
  | ins C dx fs =>
    obtain ⟨d, z, ne, e, mA, ⟨od, es, ep, e2, c⟩, r⟩ := x
    exact ⟨ho _ d, z, ne, k _ _ (.inl rfl) e, mA, ⟨od, es, ep, k _ _ (.inr d) e2, c⟩, r⟩
  | own y => obtain ⟨ob, e⟩ := x; exact ⟨ob, k _ _ (.inl rfl) e⟩
  | xd fs => obtain ⟨mA, ⟨od, es, ep, e, c⟩, r⟩ := x; exact ⟨mA, ⟨od, es, ep, k _ _ (.inl rfl) e, c⟩, r⟩
  | rng lo hi => obtain ⟨t, u, v, e⟩ := x; exact ⟨t, u, v, k _ _ (.inl rfl) e⟩
  | frz ob u ih => obtain ⟨e, q⟩ := x; exact ⟨k _ _ (.inl rfl) e, ih q⟩
  | tbl ps =>
    have e : h.get? a = some { cls := .none, data := .fields ps } := x
    show h'.get? a = some { cls := .none, data := .fields ps }
    exact k a _ (.inl rfl) e
  | met f y =>
    have e : h.get? a = some (PySem.W.methodObj (.ref f) (.ref y)) := x
    show h'.get? a = some (PySem.W.methodObj (.ref f) (.ref y))
    exact k a _ (.inl rfl) e
  | ext φ => obtain ⟨p, ⟨o, e⟩, st⟩ := x; exact ⟨st _ _ p fun o q => k _ _ (.inl rfl) q, ⟨o, k _ _ (.inl rfl) e⟩, st⟩
theorem HOk.lt (x : HOk P w H h) (e : H a = some o) : a < h.objs.size := (x a o e).lt
theorem HOk.fresh (x : HOk P w H h) (e : h.objs.size ≤ a) : H a = none := by
  cases q : H a with
  | none => rfl
  | some u => exact absurd (Nat.lt_of_lt_of_le (x.lt q) e) (Nat.lt_irrefl _)
/-- every object of the heap is kept -/
theorem HOk.kept (x : HOk P w H h) (k : ∀ b u, h.get? b = some u → h'.get? b = some u) : HOk P w H h' := fun a o e =>
  (x a o e).stay (fun b u _ q => k b u q) (fun _ q => q) fun _ _ q => q
/-- a new object is laid and tracked -/
theorem HOk.laid (x : HOk P w H h) (k : ∀ b u, h.get? b = some u → h'.get? b = some u) (hp : h.objs.size ≤ a) (new : ObjOk P w (upd H a o) h' a o) : HOk P w (upd H a o) h' := fun b u e => by
  have hn := x.fresh hp
  by_cases hb : b = a
  · subst hb; rw [upd_same] at e; cases e; exact new
  · rw [upd_ne hb] at e
    exact (x b u e).stay (fun c v _ q => k c v q) (fun c q => by rw [upd_ne (ne_of_none q hn)]; exact q) fun c xs q => by rw [upd_ne (ne_of_none q hn)]; exact q
end

/-- what may be read as u: it is u, or a known u -/
def Rd (H : Hp) (a : Addr) (u : HO) : Prop := H a = some u ∨ ∃ o, H a = some (.frz o u)
theorem Rd.ok {P : Program} {w : World} {H : Hp} {h : Heap} {a : Addr} {u : HO} (r : Rd H a u) (x : HOk P w H h) : ObjOk P w H h a u := by
  rcases r with r | ⟨o, r⟩
  · exact x a u r
  · obtain ⟨_, q⟩ := x a _ r
    exact q
/-- what may be written -/
def Mut : Option HO → Prop
  | some (.lst _) => True
  | some (.dK _) => True
  | some (.dT _) => True
  | some (.set _ _) => True
  | some (.ins _ _ _) => True
  | some (.ext _) => True
  | _ => False
section
variable {P : Program} {w : World} {H : Hp} {h h' : Heap} {x e : Addr} {o' : HO}
/-- the object at e is changed: x itself, or the dict of the instance x -/
theorem HOk.write (ok : HOk P w H h) (mu : Mut (H x)) (he : e = x ∨ H e = some (.own x)) (k : ∀ b u, b ≠ e → h.get? b = some u → h'.get? b = some u) (heo : ∃ u, h'.get? e = some u)
    (new : ObjOk P w (upd H x o') h' x o') : HOk P w (upd H x o') h' := fun b u q => by
  have nown : ∀ c y, H c = some (.own y) → c ≠ x := fun c y r z => by subst z; rw [r] at mu; exact mu
  have ntup : ∀ c xs, H c = some (.tup xs) → c ≠ x := fun c xs r z => by subst z; rw [r] at mu; exact mu
  by_cases hb : b = x
  · subst hb; rw [upd_same] at q; cases q; exact new
  · rw [upd_ne hb] at q
    by_cases hbe : b = e
    · have q' : H b = some (.own x) := by
        rcases he with z | z
        · exact absurd (hbe.trans z) hb
        · rw [hbe]; exact z
      rw [q] at q'; cases q'
      obtain ⟨v, hv⟩ := heo
      exact ⟨v, by rw [hbe]; exact hv⟩
    · refine (ok b u q).stay (fun c v hc r => k c v ?_ r) (fun c r => by rw [upd_ne (nown c b r)]; exact r) fun c xs r => by rw [upd_ne (ntup c xs r)]; exact r
      rcases hc with rfl | hc
      · exact hbe
      · rintro rfl
        rcases he with z | z
        · exact nown c b hc z
        · rw [hc] at z; cases z; exact hb rfl
end

/-! ### kept unless tracked; of the frames at fs (the callers') the slots may change (an exception that passes writes there); of the records at ex (iterators) nothing is said -/
structure Un (fs ex : List Addr) (H H' : Hp) (h h' : Heap) : Prop where
  keep : ∀ b o, h.get? b = some o → H b = none → b ∉ fs → b ∉ ex → h'.get? b = some o
  slot : ∀ b o, h.get? b = some o → H b = none → b ∈ fs → b ∉ ex → ∃ sl, h'.get? b = some { o with slots := sl }
  free : ∀ b o, h.get? b = some o → H b = none → b ∉ ex → H' b = none
  there : ∀ b o, h.get? b = some o → b ∉ ex → ∃ o', h'.get? b = some o'
  tups : ∀ b xs, H b = some (.tup xs) → H' b = some (.tup xs)
  frzs : ∀ b o u, H b = some (.frz o u) → H' b = some (.frz o u)
  tbls : ∀ b ps, H b = some (.tbl ps) → ∃ more, H' b = some (.tbl (ps ++ more))
section
variable {fs fs' ex ex' : List Addr} {H H1 H2 : Hp} {h h1 h2 h' : Heap} {a x e : Addr} {o : HO}
theorem Un.any (u : Un fs ex H H1 h h1) {b : Addr} {ob : Obj} (q : h.get? b = some ob) (n : H b = none) (hx : b ∉ ex) : ∃ sl, h1.get? b = some { ob with slots := sl } := by
  by_cases hb : b ∈ fs
  · exact u.slot b ob q n hb hx
  · exact ⟨ob.slots, u.keep b ob q n hb hx⟩
theorem Un.kept (k : ∀ b u, h.get? b = some u → h'.get? b = some u) : Un fs ex H H h h' :=
  ⟨fun b ob q _ _ _ => k b ob q, fun b ob q _ _ _ => ⟨ob.slots, k b ob q⟩, fun _ _ _ n _ => n, fun b ob q _ => ⟨ob, k b ob q⟩, fun _ _ q => q, fun _ _ _ q => q, fun _ ps q => ⟨#[], by rw [q]; simp⟩⟩
theorem Un.refl : Un fs ex H H h h := Un.kept fun _ _ q => q
theorem Un.laid (k : ∀ b u, h.get? b = some u → h'.get? b = some u) (hp : h.objs.size ≤ a) (hn : H a = none) : Un fs ex H (upd H a o) h h' where
  keep := fun b u q _ _ _ => k b u q
  slot := fun b u q _ _ _ => ⟨u.slots, k b u q⟩
  free := fun b u q n _ => by rw [upd_ne (Nat.ne_of_lt (Nat.lt_of_lt_of_le (Heap.lt_size q) hp))]; exact n
  there := fun b u q _ => ⟨u, k b u q⟩
  tups := fun b xs q => by rw [upd_ne (ne_of_none q hn)]; exact q
  frzs := fun b u xs q => by rw [upd_ne (ne_of_none q hn)]; exact q
  tbls := fun b ps q => ⟨#[], by rw [upd_ne (ne_of_none q hn), q]; simp⟩
theorem Un.write (mu : Mut (H x)) (he : e = x ∨ H e = some (.own x)) (k : ∀ b u, b ≠ e → h.get? b = some u → h'.get? b = some u) (heo : ∃ u, h'.get? e = some u) : Un fs ex H (upd H x o) h h' := by
  have hx : ∀ b, H b = none → b ≠ x := fun b n z => by subst z; rw [n] at mu; exact mu
  have hb : ∀ b, H b = none → b ≠ e := fun b n z => by
    subst z
    rcases he with r | r
    · exact hx b n r
    · rw [n] at r; cases r
  have hm : ∀ b u, H b = some u → ¬ Mut (some u) → b ≠ x := fun b u q nm z => by subst z; rw [q] at mu; exact nm mu
  refine ⟨fun b u q n _ _ => k b u (hb b n) q, fun b u q n _ _ => ⟨u.slots, k b u (hb b n) q⟩, fun b u q n _ => by rw [upd_ne (hx b n)]; exact n, fun b u q _ => ?_,
    fun b xs q => by rw [upd_ne (hm b _ q fun z => z)]; exact q, fun b u xs q => by rw [upd_ne (hm b _ q fun z => z)]; exact q, fun b ps q => ⟨#[], by rw [upd_ne (hm b _ q fun z => z), q]; simp⟩⟩
  by_cases hbe : b = e
  · subst hbe; exact heo
  · exact ⟨u, k b u hbe q⟩
end

/-! ### the heap without what is tracked -/
def trk (h : Heap) (H : Hp) : List Addr := (List.range h.objs.size).filter fun a => (H a).isSome
def hidT (h : Heap) (H : Hp) : Heap := PySem.W.hideAll h (trk h H)
theorem hidT_size (h : Heap) (H : Hp) : (hidT h H).objs.size = h.objs.size := PySem.W.hideAll_size _ _
theorem hidT_get {h : Heap} {H : Hp} {b : Addr} {o : Obj} (e : h.get? b = some o) (n : H b = none) : (hidT h H).get? b = some o :=
  PySem.W.hideAll_get _ e fun hm => by
    have q : (H b).isSome = true := (List.mem_filter.mp hm).2
    rw [n] at q; simp at q
theorem of_hidT {h : Heap} {H : Hp} {b : Addr} {o : Obj} (e : (hidT h H).get? b = some o) : h.get? b = some o ∧ H b = none := by
  have e' : h.get? b = some o := PySem.W.of_hideAll (trk h H) e
  refine ⟨e', ?_⟩
  cases q : H b with
  | none => rfl
  | some x =>
    have hm : b ∈ trk h H := List.mem_filter.mpr ⟨List.mem_range.mpr (Heap.lt_size e'), by simp [q]⟩
    have z : (hidT h H).get? b = none := PySem.W.hideAll_none (trk h H) hm
    rw [z] at e; cases e

/-! ### OpenK's ledger, filled with every new object but one -/
def allNews (g h : Heap) (L : Addr) : List (Addr × Obj) := (List.range h.objs.size).filterMap fun a => if a = L ∨ (g.get? a).isSome = true then none else (h.get? a).map fun o => (a, o)
def rest (g h : Heap) (L d : Addr) : List (Addr × Obj) := (allNews g h L).filter fun p => decide (p.1 ≠ d)
end L2

namespace L2
open PySem PySem.Spec PyProof.Rows

/-- the module's facts, over the base: the heap at the law's entry without what is tracked there -/
structure Mod (K : PySem.W.Frag) (mg : Str → Option Value) (base : Heap) : Prop where
  kin : K.In base
  glob : base.Ns mainGlobals mg
  blt : ∃ mb, base.Ns builtinsNs mb ∧ ∀ x : Str, x ≠ "__name__" → mb x = bootBuiltins x
  nolimit : base.NoLimit

/-- the context: a def's body (or a comprehension's block) running. base: fixed through the whole law; s₀, H₀: the entry; outer: the frames whose slots others may change (a def's callers); stack: all frames that run;
   ex: iterators that were made ahead of the entry and are walked here (a comprehension's); fn: the names whose cells were made at the entry (a def: all; a comprehension's block: its own); calm: not within an except suite; pn: pins that every state bears; xe: what is wanted of an exception that leaves the code -/
structure Cx where
  prog : Program
  w : World
  K : PySem.W.Frag
  mg : Str → Option Value
  base : Heap
  A : Around
  N : List Str
  s₀ : Shared
  H₀ : Hp
  env : Env
  outer : List Env
  stack : List Env
  ex : List Addr
  fn : Str → Bool
  calm : Bool
  pn : List (Addr × Obj)
  xe : Value → Shared → Prop
/-- the callers' frames -/
def frs (l : List Env) : List Addr := l.filterMap (·.frame)
abbrev Cx.fs (X : Cx) : List Addr := frs X.outer

def Vis (sc : Scope) (x : Str) : Prop := sc.names.lookup x = some .local ∨ sc.names.lookup x = some .cell ∨ sc.names.lookup x = some .free
def Loc (sc : Scope) (x : Str) : Prop := sc.names.lookup x = some .local ∨ sc.names.lookup x = some .cell
def Look (env : Env) (h : Heap) (m : Str → Option Value) (x : Str) (u : Value) : Prop :=
  (env.kindOf x = some .local ∧ m x = some u) ∨ ((env.kindOf x = some .cell ∨ env.kindOf x = some .free) ∧ ∃ c, env.cells.lookup x = some c ∧ h.IsCell c (some u))

structure Cx.Ok (X : Cx) : Prop where
  mod : Mod X.K X.mg X.base
  kind : X.env.scope.kind = .function
  glob : X.env.globals = mainGlobals
  blt : X.env.builtins = builtinsNs
  above : X.s₀.heap.objs.size ≤ X.env.locals
  inj : ∀ x y c, X.env.cells.lookup x = some c → X.env.cells.lookup y = some c → x = y
  has : ∀ x, (X.env.kindOf x = some .cell ∨ X.env.kindOf x = some .free) → ∃ c, X.env.cells.lookup x = some c
  cab : ∀ x c, X.fn x = true → X.env.cells.lookup x = some c → X.s₀.heap.objs.size ≤ c
  hd : X.calm = true → X.A.handled = none
  frames : X.A.frames = some X.stack
  stk : X.stack = X.outer ∨ (X.stack = X.env :: X.outer ∧ X.env.frame = some X.env.locals)
  exf : ∀ b ∈ X.ex, b ≠ X.env.locals ∧ ∀ x c, X.env.cells.lookup x = some c → c ≠ b
  bs : ∀ b o, X.base.get? b = some o → X.s₀.heap.get? b = some o ∧ X.H₀ b = none
  bsz : X.base.objs.size ≤ X.s₀.heap.objs.size
  noex : ∀ b o, X.base.get? b = some o → b ∉ X.ex
  exfs : ∀ b ∈ X.ex, b ∉ X.fs
  funs : X.s₀.heap.FunFrames X.base X.outer
  frf : ∀ b ∈ X.fs, X.H₀ b = none

structure Inv (X : Cx) (pins : List (Addr × Obj)) (σ : List (Option V)) (H : Hp) (s : Shared) : Prop where
  ok : X.Ok
  os : s.os = X.s₀.os
  bare : AllBare s.gens
  base : Un X.fs X.ex X.H₀ H X.s₀.heap s.heap
  loc : ∃ m, s.heap.Ns X.env.locals m ∧ ∀ (i : Nat) (x : Str) (v : V), X.N[i]? = some x → σ[i]? = some (some v) → Vis X.env.scope x → ∃ u, RelV v u ∧ Look X.env s.heap m x u
  cell : ∀ x c, X.env.cells.lookup x = some c → ∃ v, s.heap.IsCell c v
  free : H X.env.locals = none
  freeC : ∀ x c, X.env.cells.lookup x = some c → H c = none
  pin : ∀ p ∈ X.pn ++ pins, s.heap.get? p.1 = some p.2 ∧ H p.1 = none ∧ p.1 ≠ X.env.locals ∧ p.1 ∉ X.fs ∧ ∀ v, p.2.data ≠ .cell v
  hok : HOk X.prog X.w H s.heap
  len : σ.length = X.N.length

section
variable {X : Cx} {pins : List (Addr × Obj)} {σ : List (Option V)} {H H' : Hp} {s : Shared} {h' : Heap}

theorem Cx.Ok.nofr (ok : X.Ok) {b : Addr} {o : Obj} (e : X.base.get? b = some o) : b ∉ X.fs := fun hb => by
  have := (ok.funs.mem hb).1
  rw [e] at this; cases this
theorem Inv.bs (I : Inv X pins σ H s) : ∀ b o, X.base.get? b = some o → s.heap.get? b = some o ∧ H b = none := fun b o e =>
  ⟨I.base.keep b o (I.ok.bs b o e).1 (I.ok.bs b o e).2 (I.ok.nofr e) (I.ok.noex b o e), I.base.free b o (I.ok.bs b o e).1 (I.ok.bs b o e).2 (I.ok.noex b o e)⟩
theorem Inv.bk (I : Inv X pins σ H s) : ∀ b o, X.base.get? b = some o → s.heap.get? b = some o := fun b o e => (I.bs b o e).1
theorem Inv.mod (I : Inv X pins σ H s) : Mod X.K X.mg X.base := I.ok.mod
theorem Inv.kIn (I : Inv X pins σ H s) : X.K.In s.heap := I.ok.mod.kin.keeps I.bk
theorem Inv.lt (I : Inv X pins σ H s) : X.env.locals < s.heap.objs.size := let ⟨_, hn, _⟩ := I.loc; hn.lt
theorem Inv.sz (I : Inv X pins σ H s) : X.s₀.heap.objs.size ≤ s.heap.objs.size := Nat.le_trans I.ok.above (Nat.le_of_lt I.lt)
theorem Inv.nofs (I : Inv X pins σ H s) {a : Addr} (h : s.heap.objs.size ≤ a) : a ∉ X.fs := fun hb => by
  obtain ⟨_, o, ho, _⟩ := I.ok.funs.mem hb
  exact absurd (Nat.lt_of_lt_of_le (Heap.lt_size ho) (Nat.le_trans I.sz h)) (Nat.lt_irrefl _)
theorem Inv.cne (I : Inv X pins σ H s) : ∀ x c, X.env.cells.lookup x = some c → c ≠ X.env.locals := fun x c e z => by
  obtain ⟨v, o, ho, hd⟩ := I.cell x c e
  obtain ⟨m, ⟨o', es, ep, ho', hd', _⟩, _⟩ := I.loc
  rw [z, ho'] at ho; cases ho; rw [hd'] at hd; cases hd
theorem Inv.funs (I : Inv X pins σ H s) : s.heap.FunFrames X.base X.outer := by
  have all : ∀ (l : List Env), (∀ b ∈ frs l, b ∈ X.fs) → X.s₀.heap.FunFrames X.base l → s.heap.FunFrames X.base l := by
    intro l
    induction l with
    | nil => intro _ _; trivial
    | cons env r ih =>
      intro hs hl
      obtain ⟨hk, ⟨L, o, hf, hn, ho, hd⟩, hr⟩ := hl
      have hL : L ∈ X.fs := hs L (by unfold frs; rw [List.filterMap_cons, hf]; exact List.mem_cons_self)
      obtain ⟨sl, e⟩ := I.base.slot L o ho (I.ok.frf L hL) hL fun z => I.ok.exfs L z hL
      exact ⟨hk, ⟨L, _, hf, hn, e, hd⟩, ih (fun b hb => hs b (by unfold frs; rw [List.filterMap_cons, hf]; exact List.mem_cons_of_mem _ hb)) hr⟩
  exact all X.outer (fun _ hb => hb) I.ok.funs

/-- the frames that run, for a call -/
theorem Inv.stack (I : Inv X pins σ H s) : s.heap.FunFrames X.base X.stack := by
  rcases I.ok.stk with e | ⟨e, hf⟩
  · rw [e]; exact I.funs
  · rw [e]
    obtain ⟨m, hn, _⟩ := I.loc
    refine .cons (by rw [I.ok.kind]; decide) hf hn ?_ I.funs
    exact Heap.get?_none_of_le (Nat.le_trans I.ok.bsz I.ok.above)
theorem Inv.stkSub (I : Inv X pins σ H s) : ∀ b ∈ frs X.stack, b ∈ X.env.locals :: X.fs := fun b hb => by
  rcases I.ok.stk with e | ⟨e, hf⟩
  · rw [e] at hb; exact List.mem_cons_of_mem _ hb
  · rw [e] at hb
    unfold frs at hb
    rw [List.filterMap_cons, hf] at hb
    exact hb
theorem Inv.stkFree (I : Inv X pins σ H s) : ∀ b ∈ frs X.stack, H b = none := fun b hb => by
  rcases List.mem_cons.mp (I.stkSub b hb) with e | hb
  · rw [e]; exact I.free
  · obtain ⟨_, o, ho, _⟩ := I.ok.funs.mem hb
    exact I.base.free b o ho (I.ok.frf b hb) fun z => I.ok.exfs b z hb

/-- THE STEP: the untracked objects but the frame and the records at ch are kept (the callers' frames up to slots), the frame's map is kept, the new abstract heap is held -/
theorem Inv.step {g' : Array GenState} {t' : Nat} {d' : Drawn} {ch : List Addr} (I : Inv X pins σ H s)
    (hch : ∀ b ∈ ch, (b ∈ X.ex ∨ X.s₀.heap.objs.size ≤ b) ∧ b ≠ X.env.locals ∧ (∀ x c, X.env.cells.lookup x = some c → c ≠ b) ∧ ∀ p ∈ X.pn ++ pins, p.1 ≠ b)
    (keep : ∀ b o, b ≠ X.env.locals → b ∉ X.fs → b ∉ ch → s.heap.get? b = some o → H b = none → h'.get? b = some o)
    (slot : ∀ b o, b ≠ X.env.locals → b ∈ X.fs → b ∉ ch → s.heap.get? b = some o → H b = none → ∃ sl, h'.get? b = some { o with slots := sl }) (free : ∀ b o, b ∉ ch → s.heap.get? b = some o → H b = none → H' b = none)
    (there : ∀ b o, b ∉ ch → s.heap.get? b = some o → ∃ o', h'.get? b = some o')
    (tups : ∀ b xs, H b = some (.tup xs) → H' b = some (.tup xs)) (frzs : ∀ b o u, H b = some (.frz o u) → H' b = some (.frz o u)) (tbls : ∀ b ps, H b = some (.tbl ps) → ∃ more, H' b = some (.tbl (ps ++ more)))
    (ns : ∀ m, s.heap.Ns X.env.locals m → h'.Ns X.env.locals m) (hok : HOk X.prog X.w H' h') (hg : AllBare g') :
    Inv X pins σ H' { s with heap := h', gens := g', drawn := d', toks := t' } := by
  have neL : ∀ b o, X.s₀.heap.get? b = some o → b ≠ X.env.locals := fun b o e => Nat.ne_of_lt (Nat.lt_of_lt_of_le (Heap.lt_size e) I.ok.above)
  have neC : ∀ b o, X.s₀.heap.get? b = some o → b ∉ X.ex → b ∉ ch := fun b o e hx hb => by
    rcases (hch b hb).1 with z | z
    · exact hx z
    · exact absurd (Nat.lt_of_lt_of_le (Heap.lt_size e) z) (Nat.lt_irrefl _)
  have cellK : ∀ x c, X.env.cells.lookup x = some c → ∀ v, s.heap.IsCell c v → h'.IsCell c v := fun x c e v ⟨o, ho, hd⟩ => by
    have nch : c ∉ ch := fun z => (hch c z).2.2.1 x c e rfl
    by_cases hc : c ∈ X.fs
    · obtain ⟨sl, q⟩ := slot c o (I.cne x c e) hc nch ho (I.freeC x c e)
      exact ⟨_, q, hd⟩
    · exact ⟨o, keep c o (I.cne x c e) hc nch ho (I.freeC x c e), hd⟩
  refine ⟨I.ok, I.os, hg, ⟨fun b o e n hb hx => ?_, fun b o e n hb hx => ?_, fun b o e n hx => ?_, fun b o e hx => ?_, fun b xs e => tups b xs (I.base.tups b xs e), fun b o xs e => frzs b o xs (I.base.frzs b o xs e), fun b ps e => ?_⟩, ?_, fun x c e => ?_, ?_, fun x c e => ?_, fun p hp => ?_, hok, I.len⟩
  · exact keep b o (neL b o e) hb (neC b o e hx) (I.base.keep b o e n hb hx) (I.base.free b o e n hx)
  · obtain ⟨sl, e1⟩ := I.base.slot b o e n hb hx
    obtain ⟨sl', e2⟩ := slot b _ (neL b o e) hb (neC b o e hx) e1 (I.base.free b o e n hx)
    exact ⟨sl', e2⟩
  · obtain ⟨o', e1⟩ := I.base.there b o e hx
    exact free b o' (neC b o e hx) e1 (I.base.free b o e n hx)
  · obtain ⟨o', e1⟩ := I.base.there b o e hx
    exact there b o' (neC b o e hx) e1
  · obtain ⟨m1, e1⟩ := I.base.tbls b ps e
    obtain ⟨m2, e2⟩ := tbls b _ e1
    exact ⟨m1 ++ m2, by rw [e2, Array.append_assoc]⟩
  · obtain ⟨m, hn, hl⟩ := I.loc
    refine ⟨m, ns m hn, fun i x v e1 e2 e3 => ?_⟩
    obtain ⟨u, r, l⟩ := hl i x v e1 e2 e3
    refine ⟨u, r, ?_⟩
    rcases l with l | ⟨k, c, e, z⟩
    · exact .inl l
    · exact .inr ⟨k, c, e, cellK x c e _ z⟩
  · obtain ⟨v, z⟩ := I.cell x c e
    exact ⟨v, cellK x c e v z⟩
  · obtain ⟨m, ⟨o, _, _, ho, _⟩, _⟩ := I.loc
    exact free _ o (fun z => (hch _ z).2.1 rfl) ho I.free
  · obtain ⟨v, o, ho, hd⟩ := I.cell x c e
    exact free c o (fun z => (hch c z).2.2.1 x c e rfl) ho (I.freeC x c e)
  · obtain ⟨e, n, ne, nf, d⟩ := I.pin p hp
    have nch : p.1 ∉ ch := fun z => (hch p.1 z).2.2.2 p hp rfl
    exact ⟨keep p.1 p.2 ne nf nch e n, free p.1 p.2 nch e n, ne, nf, d⟩
/-- .. where the frame's own object is kept too -/
theorem Inv.un {t' : Nat} (I : Inv X pins σ H s) (u : Un X.fs [] H H' s.heap h') (hok : HOk X.prog X.w H' h') : Inv X pins σ H' { s with heap := h', toks := t' } := by
  obtain ⟨m, ⟨o, es, ep, ho, r⟩, _⟩ := id I.loc
  obtain ⟨sl, hL⟩ := u.any ho I.free (by simp)
  exact I.step (g' := s.gens) (d' := s.drawn) (ch := []) (fun _ z => nomatch z) (fun b o _ hb _ e n => u.keep b o e n hb (by simp)) (fun b o _ hb _ e n => u.slot b o e n hb (by simp)) (fun b o _ e n => u.free b o e n (by simp)) (fun b o _ e => u.there b o e (by simp)) u.tups u.frzs u.tbls (fun m' hm => by
    obtain ⟨o', es', ep', ho', r'⟩ := hm
    rw [ho] at ho'; cases ho'
    exact ⟨_, es', ep', hL, r'⟩) hok I.bare
/-- behind a call (or a comprehension's block): the slots of this frame may have changed too, the records at ch may have turned -/
theorem Inv.call {g' : Array GenState} {t' : Nat} {d' : Drawn} {ch : List Addr} (I : Inv X pins σ H s) (u : Un (frs X.stack) ch H H' s.heap h') (hok : HOk X.prog X.w H' h') (hg : AllBare g')
    (hch : ∀ b ∈ ch, (b ∈ X.ex ∨ X.s₀.heap.objs.size ≤ b) ∧ b ≠ X.env.locals ∧ (∀ x c, X.env.cells.lookup x = some c → c ≠ b) ∧ ∀ p ∈ X.pn ++ pins, p.1 ≠ b) :
    Inv X pins σ H' { s with heap := h', gens := g', drawn := d', toks := t' } := by
  obtain ⟨m, ⟨o, es, ep, ho, r⟩, _⟩ := id I.loc
  obtain ⟨sl, hL⟩ := u.any ho I.free fun z => (hch _ z).2.1 rfl
  exact I.step (ch := ch) hch (fun b o hL hb hc e n => u.keep b o e n (fun z => (List.mem_cons.mp (I.stkSub b z)).elim hL hb) hc) (fun b o _ _ hc e n => u.any e n hc) (fun b o hc e n => u.free b o e n hc) (fun b o hc e => u.there b o e hc) u.tups u.frzs u.tbls (fun m' hm => by
    obtain ⟨o', es', ep', ho', r'⟩ := hm
    rw [ho] at ho'; cases ho'
    exact ⟨_, es', ep', hL, r'⟩) hok hg
/-- an untracked record of ours (an iterator) has turned -/
theorem Inv.turned {t' : Nat} {it : Addr} (I : Inv X pins σ H s) (k : ∀ b o, b ≠ it → s.heap.get? b = some o → h'.get? b = some o) (hn : H it = none) (hL : it ≠ X.env.locals)
    (h1 : it ∈ X.ex ∨ X.s₀.heap.objs.size ≤ it) (h2 : ∀ x c, X.env.cells.lookup x = some c → c ≠ it) (h3 : ∀ p ∈ X.pn ++ pins, p.1 ≠ it) : Inv X pins σ H { s with heap := h', toks := t' } := by
  have nit : ∀ b u, H b = some u → b ≠ it := fun b u e z => by rw [z, hn] at e; cases e
  refine I.step (g' := s.gens) (d' := s.drawn) (ch := [it]) (fun b hb => ?_) (fun b o _ _ hc e _ => k b o (fun z => hc (by simp [z])) e) (fun b o _ _ hc e _ => ⟨o.slots, k b o (fun z => hc (by simp [z])) e⟩) (fun _ _ _ _ n => n)
    (fun b o hc e => ⟨o, k b o (fun z => hc (by simp [z])) e⟩) (fun _ _ e => e) (fun _ _ _ e => e) (fun b ps e => ⟨#[], by rw [e]; simp⟩) (fun m hm => ?_) (fun b u e => ?_) I.bare
  · have e : b = it := by simpa using hb
    subst e
    exact ⟨h1, hL, h2, h3⟩
  · obtain ⟨o, es, ep, ho, r⟩ := hm
    exact ⟨o, es, ep, k _ o (Ne.symm hL) ho, r⟩
  · refine (I.hok b u e).stay (fun c v hc q => k c v ?_ q) (fun _ q => q) fun _ _ q => q
    rcases hc with z | z
    · rw [z]; exact nit b u e
    · exact nit c _ z
theorem Inv.tok (I : Inv X pins σ H s) (t : Nat) : Inv X pins σ H { s with toks := t } := I.un (h' := s.heap) (t' := t) Un.refl I.hok
/-- all objects kept -/
theorem Inv.kept {t' : Nat} (I : Inv X pins σ H s) (k : ∀ b u, s.heap.get? b = some u → h'.get? b = some u) : Inv X pins σ H { s with heap := h', toks := t' } := I.un (Un.kept k) (I.hok.kept k)
/-- a new object laid and tracked -/
theorem Inv.laid {a : Addr} {o : HO} {t' : Nat} (I : Inv X pins σ H s) (k : ∀ b u, s.heap.get? b = some u → h'.get? b = some u) (hp : s.heap.objs.size ≤ a) (new : ObjOk X.prog X.w (upd H a o) h' a o) :
    Inv X pins σ (upd H a o) { s with heap := h', toks := t' } := I.un (Un.laid k hp (I.hok.fresh hp)) (I.hok.laid k hp new)
/-- an object written -/
theorem Inv.write {x e : Addr} {o : HO} {t' : Nat} (I : Inv X pins σ H s) (mu : Mut (H x)) (he : e = x ∨ H e = some (.own x)) (k : ∀ b u, b ≠ e → s.heap.get? b = some u → h'.get? b = some u) (heo : ∃ u, h'.get? e = some u)
    (new : ObjOk X.prog X.w (upd H x o) h' x o) : Inv X pins σ (upd H x o) { s with heap := h', toks := t' } := I.un (Un.write mu he k heo) (I.hok.write mu he k heo new)
theorem Inv.pins_of {pins' : List (Addr × Obj)} (I : Inv X pins σ H s) (h : ∀ p ∈ pins', s.heap.get? p.1 = some p.2 ∧ H p.1 = none ∧ p.1 ≠ X.env.locals ∧ p.1 ∉ X.fs ∧ ∀ v, p.2.data ≠ .cell v) : Inv X pins' σ H s :=
  ⟨I.ok, I.os, I.bare, I.base, I.loc, I.cell, I.free, I.freeC, fun p hp => (List.mem_append.mp hp).elim (fun z => I.pin p (List.mem_append_left _ z)) (h p), I.hok, I.len⟩

theorem nodup_ix {N : List Str} (hN : N.Nodup) {i j : Nat} {x : Str} (a : N[i]? = some x) (b : N[j]? = some x) : i = j := by
  obtain ⟨h1, e1⟩ := List.getElem?_eq_some_iff.mp a
  obtain ⟨h2, e2⟩ := List.getElem?_eq_some_iff.mp b
  exact (List.getElem_inj hN).mp (e1.trans e2.symm)

/-- a name is stored; what changed -/
theorem store_ok2 {M : Model} {A : Around} {E : Value → Shared → Prop} {i : Nat} {x : Str} {v : V} {u : Value} {Q : Unit → Shared → Prop} (I : Inv X pins σ H s) (hN : X.N.Nodup) (hi : X.N[i]? = some x) (hx : Loc X.env.scope x) (r : RelV v u)
    (h : ∀ s', Inv X pins (σ.set i (some v)) H s' → (∃ a, Heap.SameBut a s.heap s'.heap ∧ (a = X.env.locals ∨ X.env.cells.lookup x = some a)) → Q () s') (hf : X.fn x = true ∨ X.env.scope.names.lookup x = some .local := by first | exact .inl rfl | exact .inr rfl | assumption) : wpAny M A (storeName X.env x u) Q E s := by
  obtain ⟨m, hn, hl⟩ := id I.loc
  have hcls : (X.env.scope.kind == .class || (X.env.scope.kind == .module && X.env.locals != X.env.globals)) = false := by rw [I.ok.kind]; rfl
  have hiσ : i < σ.length := by rw [I.len]; exact (List.getElem?_eq_some_iff.mp hi).1
  have cne := I.cne
  have tracked : ∀ {a : Addr} {h' : Heap}, (∃ o, s.heap.get? a = some o ∧ H a = none) → Heap.SameBut a s.heap h' → HOk X.prog X.w H h' := fun {a h'} ha hs b ob e => by
    obtain ⟨_, _, hfree⟩ := ha
    refine (I.hok b ob e).stay (fun c w' hc q => (hs.2 c ?_).trans q) (fun _ q => q) fun _ _ q => q
    rintro rfl
    rcases hc with rfl | hc
    · rw [hfree] at e; cases e
    · rw [hfree] at hc; cases hc
  rcases hx with hk | hk
  · refine wpAny_storeName_local hk hn (fun h' hn' hs => ?_) hcls
    obtain ⟨oL, _, _, hoL, _⟩ := id hn
    refine h _ ⟨I.ok, I.os, I.bare, ⟨fun b o e n hb hx => ?_, fun b o e n hb hx => ?_, I.base.free, fun b o e hx => ?_, I.base.tups, I.base.frzs, I.base.tbls⟩, ⟨_, hn', fun j y v' e1 e2 e3 => ?_⟩, fun y c e => ?_, I.free, I.freeC, fun p hp => ?_, tracked ⟨oL, hoL, I.free⟩ hs, by simpa using I.len⟩ ⟨_, hs, .inl rfl⟩
    · exact (hs.2 b (Nat.ne_of_lt (Nat.lt_of_lt_of_le (Heap.lt_size e) I.ok.above))).trans (I.base.keep b o e n hb hx)
    · obtain ⟨sl, e1⟩ := I.base.slot b o e n hb hx
      exact ⟨sl, (hs.2 b (Nat.ne_of_lt (Nat.lt_of_lt_of_le (Heap.lt_size e) I.ok.above))).trans e1⟩
    · obtain ⟨o', e1⟩ := I.base.there b o e hx
      exact ⟨o', (hs.2 b (Nat.ne_of_lt (Nat.lt_of_lt_of_le (Heap.lt_size e) I.ok.above))).trans e1⟩
    · by_cases hj : j = i
      · subst hj
        rw [hi] at e1; cases e1
        rw [List.getElem?_set_self hiσ] at e2
        cases e2
        exact ⟨u, r, .inl ⟨hk, by simp⟩⟩
      · rw [List.getElem?_set_ne (Ne.symm hj)] at e2
        obtain ⟨u', r', q⟩ := hl j y v' e1 e2 e3
        refine ⟨u', r', ?_⟩
        rcases q with ⟨k, e⟩ | ⟨k, c, e, z⟩
        · refine .inl ⟨k, ?_⟩
          have : y ≠ x := fun e => hj (nodup_ix hN e1 (e ▸ hi))
          simp [this, e]
        · exact .inr ⟨k, c, e, z.sameBut hs (cne y c e)⟩
    · obtain ⟨w', z⟩ := I.cell y c e
      exact ⟨w', z.sameBut hs (cne y c e)⟩
    · obtain ⟨e, n, ne, nf, d⟩ := I.pin p hp
      exact ⟨(hs.2 p.1 ne).trans e, n, ne, nf, d⟩
  · have hfn : X.fn x = true := by
      rcases hf with z | z
      · exact z
      · rw [z] at hk; cases hk
    obtain ⟨c, hc⟩ := I.ok.has x (.inl hk)
    obtain ⟨w', z⟩ := I.cell x c hc
    refine wpAny_storeName_cell I.ok.kind hk hc z (fun h' hc' hs => ?_)
    obtain ⟨oc, hoc, hocd⟩ := id z
    refine h { s with heap := h' } ⟨I.ok, I.os, I.bare, ⟨fun b o e n hb hx => ?_, fun b o e n hb hx => ?_, I.base.free, fun b o e hx => ?_, I.base.tups, I.base.frzs, I.base.tbls⟩, ⟨m, hn.sameBut hs (Ne.symm (cne x c hc)), fun j y v' e1 e2 e3 => ?_⟩, fun y c' e => ?_, I.free, I.freeC, fun p hp => ?_, tracked ⟨oc, hoc, I.freeC x c hc⟩ hs, by simpa using I.len⟩ ⟨c, hs, .inr hc⟩
    · exact (hs.2 b (Nat.ne_of_lt (Nat.lt_of_lt_of_le (Heap.lt_size e) (I.ok.cab x c hfn hc)))).trans (I.base.keep b o e n hb hx)
    · obtain ⟨sl, e1⟩ := I.base.slot b o e n hb hx
      exact ⟨sl, (hs.2 b (Nat.ne_of_lt (Nat.lt_of_lt_of_le (Heap.lt_size e) (I.ok.cab x c hfn hc)))).trans e1⟩
    · obtain ⟨o', e1⟩ := I.base.there b o e hx
      exact ⟨o', (hs.2 b (Nat.ne_of_lt (Nat.lt_of_lt_of_le (Heap.lt_size e) (I.ok.cab x c hfn hc)))).trans e1⟩
    · by_cases hj : j = i
      · subst hj
        rw [hi] at e1; cases e1
        rw [List.getElem?_set_self hiσ] at e2
        cases e2
        exact ⟨u, r, .inr ⟨.inl hk, c, hc, hc'⟩⟩
      · rw [List.getElem?_set_ne (Ne.symm hj)] at e2
        obtain ⟨u', r', q⟩ := hl j y v' e1 e2 e3
        refine ⟨u', r', ?_⟩
        rcases q with q | ⟨k, c', e, z'⟩
        · exact .inl q
        · refine .inr ⟨k, c', e, z'.sameBut hs ?_⟩
          rintro rfl
          exact hj (nodup_ix hN e1 (I.ok.inj _ _ _ e hc ▸ hi))
    · by_cases hcc : c' = c
      · subst hcc; exact ⟨_, hc'⟩
      · obtain ⟨w2, z2⟩ := I.cell y c' e
        exact ⟨w2, z2.sameBut hs hcc⟩
    · obtain ⟨e, n, ne, nf, d⟩ := I.pin p hp
      refine ⟨(hs.2 p.1 ?_).trans e, n, ne, nf, d⟩
      intro q
      rw [q, hoc] at e
      have q' : oc = p.2 := Option.some.inj e
      exact d w' (by rw [← q']; exact hocd)
theorem store_ok {M : Model} {A : Around} {E : Value → Shared → Prop} {i : Nat} {x : Str} {v : V} {u : Value} {Q : Unit → Shared → Prop} (I : Inv X pins σ H s) (hN : X.N.Nodup) (hi : X.N[i]? = some x) (hx : Loc X.env.scope x) (r : RelV v u)
    (h : ∀ s', Inv X pins (σ.set i (some v)) H s' → Q () s') (hf : X.fn x = true ∨ X.env.scope.names.lookup x = some .local := by first | exact .inl rfl | exact .inr rfl | assumption) : wpAny M A (storeName X.env x u) Q E s :=
  store_ok2 I hN hi hx r (fun s' I' _ => h s' I') hf
/-- behind a call or a block, the state as it is -/
theorem Inv.call' {s' : Shared} {ch : List Addr} (I : Inv X pins σ H s) (ho : s'.os = s.os) (u : Un (frs X.stack) ch H H' s.heap s'.heap) (hok : HOk X.prog X.w H' s'.heap) (hg : AllBare s'.gens)
    (hch : ∀ b ∈ ch, (b ∈ X.ex ∨ X.s₀.heap.objs.size ≤ b) ∧ b ≠ X.env.locals ∧ (∀ x c, X.env.cells.lookup x = some c → c ≠ b) ∧ ∀ p ∈ X.pn ++ pins, p.1 ≠ b) : Inv X pins σ H' s' := by
  obtain ⟨h', g', d', t', o'⟩ := s'
  have e : o' = s.os := ho
  subst e
  exact I.call (g' := g') (t' := t') (d' := d') u hok hg hch
end

/-! ### the judgements -/
/-- an exception: its class, its own dict's address (where it has one), the abstract heap behind it -/
abbrev XK := Value → Option Addr → Hp → Prop
abbrev St := List (Option V)
abbrev VK := V → Hp → Prop
/-- an expression's reading; a test's; an argument list's -/
abbrev TE := St → Hp → VK → Prop
abbrev TT := St → Hp → (Bool → Hp → Prop) → Prop
abbrev TA := St → Hp → (List V → Hp → Prop) → Prop
/-- what is wanted behind a statement -/
structure Ends where
  nx : St → Hp → Prop
  rt : VK
  bk : St → Hp → Prop := fun _ _ => False
  ct : St → Hp → Prop := fun _ _ => False
abbrev TS := Ends → St → Hp → Prop

def EP (X : Cx) (pins : List (Addr × Obj)) (σ : St) (Q : VK) (u : Value) (s' : Shared) : Prop := ∃ v H', Inv X pins σ H' s' ∧ RelV v u ∧ Q v H'
def TP (X : Cx) (pins : List (Addr × Obj)) (σ : St) (Q : Bool → Hp → Prop) (b : Bool) (s' : Shared) : Prop := ∃ H', Inv X pins σ H' s' ∧ Q b H'
def AP (X : Cx) (pins : List (Addr × Obj)) (σ : St) (Q : List V → Hp → Prop) (us : List Value) (s' : Shared) : Prop := ∃ vs H', Inv X pins σ H' s' ∧ Vals vs us ∧ Q vs H'
def SP (X : Cx) (pins : List (Addr × Obj)) (D : Ends) (f : Flow) (s' : Shared) : Prop :=
  match f with
  | .next => ∃ σ' H', Inv X pins σ' H' s' ∧ D.nx σ' H'
  | .brk => ∃ σ' H', Inv X pins σ' H' s' ∧ D.bk σ' H'
  | .cont => ∃ σ' H', Inv X pins σ' H' s' ∧ D.ct σ' H'
  | .ret u => ∃ v σ' H', Inv X pins σ' H' s' ∧ RelV v u ∧ D.rt v H'

def PE (X : Cx) (e : Expr) (t : TE) : Prop :=
  ∀ (pins : List (Addr × Obj)) (s : Shared) (σ : St) (H : Hp) (Q : VK), Inv X pins σ H s → t σ H Q → wpAny (model X.prog X.w) X.A (eval e X.env) (EP X pins σ Q) X.xe s
def PT (X : Cx) (e : Expr) (t : TT) : Prop :=
  ∀ (pins : List (Addr × Obj)) (s : Shared) (σ : St) (H : Hp) (Q : Bool → Hp → Prop), Inv X pins σ H s → t σ H Q → wpAny (model X.prog X.w) X.A (isTrue e X.env (eval e X.env)) (TP X pins σ Q) X.xe s
/-- a test whatever its 'whole' is (and, or) -/
def PW (X : Cx) (e : Expr) (t : TT) : Prop :=
  ∀ (whole : Sem Value) (pins : List (Addr × Obj)) (s : Shared) (σ : St) (H : Hp) (Q : Bool → Hp → Prop), Inv X pins σ H s → t σ H Q → wpAny (model X.prog X.w) X.A (isTrue e X.env whole) (TP X pins σ Q) X.xe s
theorem PW.pt {X : Cx} {e : Expr} {t : TT} (h : PW X e t) : PT X e t := h _
/-- an argument list (no star), from the left -/
def PA (X : Cx) (es : List Expr) (t : TA) : Prop :=
  ∀ (pos : Pos) (pins : List (Addr × Obj)) (s : Shared) (σ : St) (H : Hp) (Q : List V → Hp → Prop), Inv X pins σ H s → t σ H Q → wpAny (model X.prog X.w) X.A (spliced (backTo pos (starEach es X.env))) (AP X pins σ Q) X.xe s
def PS (X : Cx) (st : Stmt) (t : TS) : Prop :=
  ∀ (pins : List (Addr × Obj)) (s : Shared) (σ : St) (H : Hp) (D : Ends), Inv X pins σ H s → t D σ H → wpAny (model X.prog X.w) X.A (exec st X.env) (SP X pins D) X.xe s
def PSs (X : Cx) (st : List Stmt) (t : TS) : Prop :=
  ∀ (pins : List (Addr × Obj)) (s : Shared) (σ : St) (H : Hp) (D : Ends), Inv X pins σ H s → t D σ H → wpAny (model X.prog X.w) X.A (execs st X.env) (SP X pins D) X.xe s
/-- weaken the end -/
theorem thn {α : Type} {t : Sem α} {Q Q' : α → Shared → Prop} {M : Model} {A : Around} {E : Value → Shared → Prop} {s : Shared} (h : wpAny M A t Q E s) (hQ : ∀ a s, Q a s → Q' a s) : wpAny M A t Q' E s := wpAny_mono h hQ fun _ _ x => x
end L2

namespace L2
open PySem PySem.Spec PyProof.Rows
section
variable {X : Cx}

/-- two expressions in a row -/
theorem bin {a b : Expr} {ta tb : TE} (ha : PE X a ta) (hb : PE X b tb) {pins : List (Addr × Obj)} {s : Shared} {σ : St} {H : Hp} {R : V → V → Hp → Prop} (I : Inv X pins σ H s) (h : ta σ H fun x H1 => tb σ H1 fun y H2 => R x y H2)
    {α : Type} {Q : α → Shared → Prop} {f : Value → Value → Sem α}
    (hf : ∀ v u s2 x y H2, Inv X pins σ H2 s2 → RelV x v → RelV y u → R x y H2 → wpAny (model X.prog X.w) X.A (f v u) Q X.xe s2) :
    wpAny (model X.prog X.w) X.A (eval a X.env) (fun v s₁ => wpAny (model X.prog X.w) X.A (eval b X.env) (fun u s₂ => wpAny (model X.prog X.w) X.A (f v u) Q X.xe s₂) X.xe s₁) X.xe s := by
  refine thn (ha pins s σ H _ I h) fun v s1 ⟨x, H1, I1, r1, q1⟩ => ?_
  refine thn (hb pins s1 σ H1 _ I1 q1) fun u s2 ⟨y, H2, I2, r2, q2⟩ => ?_
  exact hf v u s2 x y H2 I2 r1 r2 q2

/-! ### names and constants -/
inductive tVar (i : Nat) (σ : St) (H : Hp) (Q : VK) : Prop
  | mk (v : _) (_ : σ[i]? = some (some v)) (_ : Q v H) : tVar i σ H Q
def tC (v : V) : TE := fun _ H Q => Q v H
theorem pe_var {i : Nat} {x : Str} {pos : Pos} (hN : X.N[i]? = some x) (hv : Vis X.env.scope x) (hd : (x == ("__debug__" : Str)) = false := by decide) (hcd : (x == ("__classdict__" : Str)) = false := by decide) : PE X (.Name x pos) (tVar i) := by
  intro pins s σ H Q I h
  obtain ⟨v, e, h⟩ := h
  obtain ⟨m, hn, hl⟩ := I.loc
  obtain ⟨u, r, l⟩ := hl i x v hN e hv
  have fin : EP X pins σ Q u s := ⟨v, H, I, r, h⟩
  rcases l with ⟨hk, hm⟩ | ⟨hk, c, hc, hcell⟩
  · exact wpAny_Name (wpAny_loadName_local I.ok.kind hk hn hm fin) hd
  · rcases hk with hk | hk
    · exact wpAny_Name (wpAny_loadName_cell I.ok.kind hk hc hcell fin) hd
    · exact wpAny_Name (wpAny_loadName_free I.ok.kind hk hc hcell fin hcd) hd
theorem pe_int {i j pos} : PE X (.Constant (.int i) j pos) (tC (.int i)) := fun _ _ _ H _ I h => wpAny_Constant_int ⟨.int i, H, I.tok _, ⟨_, rfl⟩, h⟩
theorem pe_bl {b j pos} : PE X (.Constant (.bool b) j pos) (tC (.bl b)) := fun _ _ _ H _ I h => Constant_bool ⟨.bl b, H, I, rfl, h⟩
theorem pe_non {j pos} : PE X (.Constant .none j pos) (tC .non) := fun _ _ _ H _ I h => Constant_none ⟨.non, H, I, rfl, h⟩
theorem pe_str {x j pos} : PE X (.Constant (.str x) j pos) (tC (.str x)) := fun _ _ _ H _ I h => Calls.Constant_str ⟨.str x, H, I.tok _, ⟨_, rfl⟩, h⟩

/-- a global name of the def -/
def Gl (X : Cx) (x : Str) : Prop := X.env.kindOf x = some .globalImplicit
theorem ld_glob {E : Value → Shared → Prop} {pins : List (Addr × Obj)} {s : Shared} {σ : St} {H : Hp} {x : Str} {u : Value} {pos : Pos} {Q : Value → Shared → Prop} (I : Inv X pins σ H s) (hg : Gl X x) (hm : X.mg x = some u) (h : Q u s)
    (hd : (x == ("__debug__" : Str)) = false := by decide) : wpAny (model X.prog X.w) X.A (eval (.Name x pos) X.env) Q E s :=
  Calls.Name_function_global I.ok.kind hg (Calls.loadGlobal_global (by rw [I.ok.glob]; exact I.mod.glob.keeps I.bk) hm h) hd
theorem ld_blt {E : Value → Shared → Prop} {pins : List (Addr × Obj)} {s : Shared} {σ : St} {H : Hp} {x : Str} {u : Value} {pos : Pos} {Q : Value → Shared → Prop} (I : Inv X pins σ H s) (hg : Gl X x) (hm : X.mg x = none) (hv : bootBuiltins x = some u) (h : Q u s)
    (hn : x ≠ "__name__" := by decide) (hd : (x == ("__debug__" : Str)) = false := by decide) : wpAny (model X.prog X.w) X.A (eval (.Name x pos) X.env) Q E s := by
  obtain ⟨mb, h1, h2⟩ := I.mod.blt
  exact Calls.Name_function_global I.ok.kind hg (Calls.loadGlobal_builtin (by rw [I.ok.glob]; exact I.mod.glob.keeps I.bk) hm (by rw [I.ok.blt]; exact h1.keeps I.bk) ((h2 x hn).trans hv) h) hd
/-- a module's constant, a class, a function, as a value -/
theorem pe_glob {x : Str} {v : V} {u : Value} {pos : Pos} (hg : Gl X x) (hm : X.mg x = some u) (r : RelV v u) (hd : (x == ("__debug__" : Str)) = false := by decide) : PE X (.Name x pos) (tC v) :=
  fun _ _ _ H _ I h => ld_glob I hg hm ⟨v, H, I, r, h⟩ hd
theorem pe_bltn {x : Str} {v : V} {u : Value} {pos : Pos} (hg : Gl X x) (hm : X.mg x = none) (hv : bootBuiltins x = some u) (r : RelV v u) (hn : x ≠ "__name__" := by decide) (hd : (x == ("__debug__" : Str)) = false := by decide) : PE X (.Name x pos) (tC v) :=
  fun _ _ _ H _ I h => ld_blt I hg hm hv ⟨v, H, I, r, h⟩ hn hd

/-! ### arithmetic -/
variable {a b : Expr} {ta tb : TE} {pos : Pos}
/-! ### comparisons -/
def PC (X : Cx) (op : CmpOp) (a b : Expr) (t : TE) : Prop :=
  ∀ (pins : List (Addr × Obj)) (s : Shared) (σ : St) (H : Hp) (Q : VK), Inv X pins σ H s → t σ H Q →
    wpAny (model X.prog X.w) X.A (eval a X.env) (fun v s₁ => wpAny (model X.prog X.w) X.A (eval b X.env) (fun u s₂ => wpAny (model X.prog X.w) X.A (compareOp op v u) (EP X pins σ Q) X.xe s₂) X.xe s₁) X.xe s
theorem nobehind (b : Expr) {op : CmpOp} (h : op ≠ .In) (h2 : op ≠ .NotIn) : behindInMarks op b = false := by
  have e1 : (op == CmpOp.In) = false := by cases op <;> first | rfl | exact absurd rfl h
  have e2 : (op == CmpOp.NotIn) = false := by cases op <;> first | rfl | exact absurd rfl h2
  cases b <;> simp [behindInMarks, e1, e2]
/-- is None -/
def tIsN (ta : TE) : TE := fun σ H Q => ta σ H fun x H1 => Q (.bl (decide (x = .non))) H1
def tNotN (ta : TE) : TE := fun σ H Q => ta σ H fun x H1 => Q (.bl (!decide (x = .non))) H1
theorem RelV.none_iff {x : V} {v : Value} (r : RelV x v) : (v == Value.none) = decide (x = .non) := by
  cases x with
  | non => cases r; rfl
  | bl _ => cases r; rfl
  | int _ => obtain ⟨t, rfl⟩ := r; rfl
  | str _ => obtain ⟨t, rfl⟩ := r; rfl
  | byt _ => obtain ⟨t, rfl⟩ := r; rfl
  | flt _ => obtain ⟨t, rfl⟩ := r; rfl
  | ref _ => cases r; rfl
  | ty _ => cases r; rfl
theorem pc_isN {j pos'} (ha : PE X a ta) : PC X .Is a (.Constant .none j pos') (tIsN ta) := by
  intro pins s σ H Q I h
  refine thn (ha pins s σ H _ I h) fun v s1 ⟨x, H1, I1, r1, q1⟩ => ?_
  exact Constant_none (is_none_gen ⟨.bl _, H1, I1, by rw [r1.none_iff]; rfl, q1⟩)
theorem pc_notN {j pos'} (ha : PE X a ta) : PC X .IsNot a (.Constant .none j pos') (tNotN ta) := by
  intro pins s σ H Q I h
  refine thn (ha pins s σ H _ I h) fun v s1 ⟨x, H1, I1, r1, q1⟩ => ?_
  exact Constant_none (isnot_none_gen ⟨.bl _, H1, I1, by rw [r1.none_iff]; rfl, q1⟩)
/-- a comparison as a value, as a test -/
inductive isBl (x : V) (H : Hp) (Q : Bool → Hp → Prop) : Prop
  | mk (c : Bool) (_ : x = .bl c) (_ : Q c H) : isBl x H Q
def tB (t : TE) : TT := fun σ H Q => t σ H fun x H1 => isBl x H1 Q
theorem pt_cmp {op : CmpOp} {t : TE} (h : PC X op a b t) (h1 : behindInMarks op b = false := by first | exact nobehind _ (by decide) (by decide) | rfl) : PT X (.Compare a [op] [b] pos) (tB t) := by
  intro pins s σ H Q I hw
  refine wpAny_isTrue_Compare1 (thn (h pins s σ H _ I hw) fun v s1 h1 => thn h1 fun u s2 h2 => thn h2 fun c s3 ⟨x, H1, I1, r1, q1⟩ => ?_) h1
  obtain ⟨d, rfl, q⟩ := q1
  cases r1
  exact wpAny_truthy_bool ⟨H1, I1, q⟩
/-- an expression whose value is a bool, as a test -/
theorem pt_val {e : Expr} {t : TE} (h : PE X e t) (he : ∀ whole, isTrue e X.env whole = (do let v ← whole; standAt e.pos; holding [v] (truthy v)) := by intro _; rfl) : PT X e (tB t) := by
  intro pins s σ H Q I hw
  refine isTrue_plain (thn (h pins s σ H _ I hw) fun v s1 ⟨x, H1, I1, r1, q1⟩ => ?_) (he _)
  obtain ⟨d, rfl, q⟩ := q1
  cases r1
  exact wpAny_truthy_bool ⟨H1, I1, q⟩

/-! ### and, or, not -/
variable {tA tB' : TT} {rest : List Expr}
def tAnd (t u : TT) : TT := fun σ H Q => t σ H fun c H1 => if c = true then u σ H1 Q else Q false H1
def tOr (t u : TT) : TT := fun σ H Q => t σ H fun c H1 => if c = true then Q true H1 else u σ H1 Q
def tNot (t : TT) : TT := fun σ H Q => t σ H fun c H1 => Q (!c) H1
theorem pw_and1 (ha : PT X a tA) : PW X (.BoolOp .And [a] pos) tA := by
  intro wh pins s σ H Q I h
  refine isTrue_and (thn (ha pins s σ H Q I h) fun c s1 e => ?_)
  cases c with
  | true => exact isTrue_and_nil e
  | false => exact e
theorem pw_or1 (ha : PT X a tA) : PW X (.BoolOp .Or [a] pos) tA := by
  intro wh pins s σ H Q I h
  refine isTrue_or (thn (ha pins s σ H Q I h) fun c s1 e => ?_)
  cases c with
  | false => exact isTrue_or_nil e
  | true => exact e
theorem pw_and (ha : PT X a tA) (hb : PW X (.BoolOp .And (b :: rest) pos) tB') : PW X (.BoolOp .And (a :: b :: rest) pos) (tAnd tA tB') := by
  intro wh pins s σ H Q I h
  refine isTrue_and (thn (ha pins s σ H _ I h) fun c s1 ⟨H1, I1, q1⟩ => ?_)
  cases c with
  | true => exact hb wh pins s1 σ H1 Q I1 q1
  | false => exact ⟨H1, I1, q1⟩
theorem pw_or (ha : PT X a tA) (hb : PW X (.BoolOp .Or (b :: rest) pos) tB') : PW X (.BoolOp .Or (a :: b :: rest) pos) (tOr tA tB') := by
  intro wh pins s σ H Q I h
  refine isTrue_or (thn (ha pins s σ H _ I h) fun c s1 ⟨H1, I1, q1⟩ => ?_)
  cases c with
  | true => exact ⟨H1, I1, q1⟩
  | false => exact hb wh pins s1 σ H1 Q I1 q1
theorem pt_not (ha : PT X a tA) : PT X (.UnaryOp .Not a pos) (tNot tA) := by
  intro pins s σ H Q I h
  exact isTrue_not (ha pins s σ H (fun c H1 => Q (!c) H1) I h)
/-- .. as values (bools) -/
def tAndV (ta tb : TE) : TE := fun σ H Q => ta σ H fun x H1 => ∃ c, x = .bl c ∧ if c = true then tb σ H1 Q else Q (.bl false) H1
def tNotV (ta : TE) : TE := fun σ H Q => ta σ H fun x H1 => ∃ c, x = .bl c ∧ Q (.bl (!c)) H1
theorem pe_one {op} {t : TE} (h : PE X a t) : PE X (.BoolOp op [a] pos) t := fun pins s σ H Q I hw => BoolOp_one (h pins s σ H Q I hw)
theorem pe_and (ha : PE X a ta) (hb : PE X (.BoolOp .And (b :: rest) pos) tb) : PE X (.BoolOp .And (a :: b :: rest) pos) (tAndV ta tb) := by
  intro pins s σ H Q I h
  refine BoolOp_and (thn (ha pins s σ H _ I h) fun v s1 ⟨x, H1, I1, r1, q1⟩ => ?_)
  obtain ⟨c, rfl, q1⟩ := q1
  cases r1
  refine wpAny_truthy_bool ?_
  cases c with
  | true => exact hb pins s1 σ H1 Q I1 q1
  | false => exact ⟨.bl false, H1, I1, rfl, q1⟩
theorem pe_not (ha : PE X a ta) : PE X (.UnaryOp .Not a pos) (tNotV ta) := by
  intro pins s σ H Q I h
  refine UnaryOp_ (thn (ha pins s σ H _ I h) fun v s1 ⟨x, H1, I1, r1, q1⟩ => ?_)
  obtain ⟨c, rfl, q1⟩ := q1
  cases r1
  exact not_of (wpAny_truthy_bool ⟨.bl (!c), H1, I1, rfl, q1⟩)
/-- a if t else b -/
def tIf (t : TT) (ta tb : TE) : TE := fun σ H Q => t σ H fun c H1 => if c = true then ta σ H1 Q else tb σ H1 Q
theorem pe_ifExp {c : Expr} (hc : PT X c tA) (ha : PE X a ta) (hb : PE X b tb) : PE X (.IfExp c a b pos) (tIf tA ta tb) := by
  intro pins s σ H Q I h
  refine wpAny_IfExp (thn (hc pins s σ H _ I h) fun d s1 ⟨H1, I1, q1⟩ => ?_)
  cases d with
  | true => exact ha pins s1 σ H1 Q I1 q1
  | false => exact hb pins s1 σ H1 Q I1 q1
end
end L2

namespace L2
open PySem PySem.Spec PyProof.Rows

/-! ### a list, a tuple that is read: tracked, frozen, or an object of the module -/
def SqL (K : PySem.W.Frag) (H : Hp) (a : Addr) (xs : List V) : Prop :=
  Rd H a (.lst xs) ∨
    ∃ (o : Obj) (its : Array Value) (n : Nat), K.lookup a = some o ∧ o.cls = .type "list" ∧ o.dict = none ∧ o.data = .seq its n ∧ its.size ≤ sizeLine ∧ Vals xs its.toList
def SqT (K : PySem.W.Frag) (H : Hp) (a : Addr) (xs : List V) : Prop :=
  Rd H a (.tup xs) ∨
    ∃ (o : Obj) (its : Array Value) (n : Nat), K.lookup a = some o ∧ o.cls = .type "tuple" ∧ o.data = .seq its n ∧ its.size ≤ sizeLine ∧ Vals xs its.toList
def absV : Value → Option V
  | .none => some .non
  | .bool b => some (.bl b)
  | .int i _ => some (.int i)
  | .str x _ => some (.str x)
  | .bytes b _ => some (.byt b)
  | .float b _ => some (.flt b)
  | .ref a => some (.ref a)
  | .type n => some (.ty n)
  | _ => none
theorem RelV.abs {x : V} {u : Value} (r : RelV x u) : absV u = some x := by
  cases x with
  | non => cases r; rfl
  | bl _ => cases r; rfl
  | int _ => obtain ⟨t, rfl⟩ := r; rfl
  | str _ => obtain ⟨t, rfl⟩ := r; rfl
  | byt _ => obtain ⟨t, rfl⟩ := r; rfl
  | flt _ => obtain ⟨t, rfl⟩ := r; rfl
  | ref _ => cases r; rfl
  | ty _ => cases r; rfl
theorem RelV.inj {x y : V} {u : Value} (r : RelV x u) (q : RelV y u) : x = y := Option.some.inj (r.abs.symm.trans q.abs)
theorem Vals.inj : ∀ {xs ys : List V} {us : List Value}, Vals xs us → Vals ys us → xs = ys
  | _, _, _, .nil, .nil => rfl
  | _, _, _, .cons r t, .cons r' t' => by rw [r.inj r', Vals.inj t t']
section
variable {X : Cx} {pins : List (Addr × Obj)} {σ : St} {H : Hp} {s : Shared} {a : Addr} {xs ys : List V}
theorem SqL.of {K : PySem.W.Frag} (h : H a = some (.lst xs)) : SqL K H a xs := .inl (.inl h)
theorem SqT.of {K : PySem.W.Frag} (h : H a = some (.tup xs)) : SqT K H a xs := .inl (.inl h)
theorem Inv.list (I : Inv X pins σ H s) (h : SqL X.K H a xs) : ∃ its : List Value, Vals xs its ∧ PlainL s.heap a its.toArray ∧ xs.length ≤ sizeLine := by
  rcases h with h | ⟨o, its, n, hk, hc, hd, hs, hz, r⟩
  · obtain ⟨z, its, n, r, e⟩ := h.ok I.hok
    exact ⟨its, r, ⟨_, n, e, rfl, rfl, rfl⟩, z⟩
  · refine ⟨its.toList, r, ⟨o, n, I.kIn a o hk, hc, hd, by simpa using hs⟩, ?_⟩
    have e := r.length
    simp only [Array.length_toList] at e
    omega
theorem Inv.tuple (I : Inv X pins σ H s) (h : SqT X.K H a xs) : ∃ its : List Value, Vals xs its ∧ IsTup s.heap a its.toArray ∧ xs.length ≤ sizeLine := by
  rcases h with h | ⟨o, its, n, hk, hc, hs, hz, r⟩
  · obtain ⟨z, its, r, p⟩ := h.ok I.hok
    exact ⟨its, r, p, z⟩
  · refine ⟨its.toList, r, ⟨o, I.kIn a o hk, hc, n, by simpa using hs⟩, ?_⟩
    have e := r.length
    simp only [Array.length_toList] at e
    omega
theorem Inv.list_inj (I : Inv X pins σ H s) (h : SqL X.K H a xs) (h' : SqL X.K H a ys) : xs = ys := by
  obtain ⟨its, r, ⟨o, n, e, _, _, d⟩, _⟩ := I.list h
  obtain ⟨its', r', ⟨o', n', e', _, _, d'⟩, _⟩ := I.list h'
  rw [e] at e'; cases e'
  rw [d] at d'
  injection d' with d1 _
  have : its = its' := by simpa using congrArg Array.toList d1
  subst this
  exact r.inj r'
end

/-! ### another wish about exceptions -/
abbrev Cx.wish (X : Cx) (E : Value → Shared → Prop) : Cx := { X with xe := E }
section
variable {X : Cx} {pins : List (Addr × Obj)} {σ : St} {H : Hp} {s : Shared} {E : Value → Shared → Prop}
end

/-! ### blocks and small statements -/
section
variable {X : Cx} {st : Stmt} {rest : List Stmt} {t u : TS} {e : Expr} {te : TE} {pos : Pos}
def tNext : TS := fun D σ H => D.nx σ H
def tSeq (t u : TS) : TS := fun D σ H => t { D with nx := u D } σ H
theorem pss_nil : PSs X [] tNext := fun _ _ σ H _ I h => wpAny_execs_nil ⟨σ, H, I, h⟩
theorem pss_cons (h1 : PS X st t) (h2 : PSs X rest u) : PSs X (st :: rest) (tSeq t u) := by
  intro pins s σ H D I h
  refine wpAny_execs_cons (thn (h1 pins s σ H { D with nx := u D } I h) fun f s1 q => ?_)
  cases f with
  | next =>
    obtain ⟨σ', H', I', q⟩ := q
    exact h2 pins s1 σ' H' D I' q
  | ret v => exact q
  | brk => exact q
  | cont => exact q
theorem pss_one (h1 : PS X st t) : PSs X [st] t := by
  intro pins s σ H D I h
  refine wpAny_execs_cons (thn (h1 pins s σ H D I h) fun f s1 q => ?_)
  cases f with
  | next => exact wpAny_execs_nil q
  | ret v => exact q
  | brk => exact q
  | cont => exact q
/-- in a def's body nothing is shown -/
theorem Inv.quiet {pins : List (Addr × Obj)} {σ : St} {H : Hp} {s : Shared} (I : Inv X pins σ H s) : interactive X.env = false := by simp [interactive, I.ok.kind]
/-- an expression whose value is dropped -/
def tDrop (te : TE) : TS := fun D σ H => te σ H fun _ H1 => D.nx σ H1
theorem ps_expr (he : PE X e te) (hs : swapsWith e none pos.line X.env = pure false := by rfl) : PS X (.Expr e pos) (tDrop te) := by
  intro pins s σ H D I h
  exact wpAny_Expr_any (thn (he pins s σ H _ I h) fun v s1 ⟨x, H1, I1, r1, q1⟩ => ⟨σ, H1, I1, q1⟩) I.quiet hs
def tRet (te : TE) : TS := fun D σ H => te σ H D.rt
theorem ps_ret (he : PE X e te) : PS X (.Return (some e) pos) (tRet te) := by
  intro pins s σ H D I h
  exact wpAny_Return_some (thn (he pins s σ H _ I h) fun v s1 ⟨x, H1, I1, r1, q1⟩ => ⟨x, σ, H1, I1, r1, q1⟩)
def tIfS (c : TT) (t u : TS) : TS := fun D σ H => c σ H fun b H1 => if b = true then t D σ H1 else u D σ H1
theorem ps_if {c : Expr} {a b : List Stmt} {tc : TT} (hc : PT X c tc) (ha : PSs X a t) (hb : PSs X b u) : PS X (.If c a b pos) (tIfS tc t u) := by
  intro pins s σ H D I h
  refine wpAny_If (thn (hc pins s σ H _ I h) fun d s1 ⟨H1, I1, q1⟩ => ?_)
  cases d with
  | true => exact ha pins s1 σ H1 D I1 q1
  | false => exact hb pins s1 σ H1 D I1 q1
end

/-! ### targets -/
abbrev TG := V → St → Hp → (St → Hp → Prop) → Prop
abbrev TGs := List V → St → Hp → (St → Hp → Prop) → Prop
def PG (X : Cx) (target : Expr) (t : TG) : Prop :=
  ∀ (pins : List (Addr × Obj)) (s : Shared) (σ : St) (H : Hp) (v : V) (u : Value) (Q : St → Hp → Prop), Inv X pins σ H s → RelV v u → t v σ H Q →
    wpAny (model X.prog X.w) X.A (assign target X.env u) (fun _ s' => ∃ σ' H', Inv X pins σ' H' s' ∧ Q σ' H') X.xe s
/-- several targets, one after another -/
def PGs (X : Cx) (ts : List Expr) (t : TGs) : Prop :=
  ∀ (pins : List (Addr × Obj)) (s : Shared) (σ : St) (H : Hp) (vs : List V) (us : List Value) (Q : St → Hp → Prop), Inv X pins σ H s → Vals vs us → t vs σ H Q →
    wpAny (model X.prog X.w) X.A (assignInOrder ((assignEach ts X.env).map (·.2)) us) (fun _ s' => ∃ σ' H', Inv X pins σ' H' s' ∧ Q σ' H') X.xe s
/-- o[i] = v, by values -/
abbrev TSet := V → V → V → Hp → (Hp → Prop) → Prop
def PSet (X : Cx) (t : TSet) : Prop :=
  ∀ (pins : List (Addr × Obj)) (s : Shared) (σ : St) (H : Hp) (o i v : V) (ov iv u : Value) (Q : Hp → Prop), Inv X pins σ H s → RelV o ov → RelV i iv → RelV v u → t o i v H Q →
    wpAny (model X.prog X.w) X.A (setItem ov iv u) (fun _ s' => ∃ H', Inv X pins σ H' s' ∧ Q H') X.xe s
section
variable {X : Cx} {pos : Pos}
def gName (i : Nat) : TG := fun v σ H Q => Q (σ.set i (some v)) H
theorem pg_name {i : Nat} {x : Str} (hN : X.N.Nodup) (hi : X.N[i]? = some x) (hx : Loc X.env.scope x) (hf : X.fn x = true ∨ X.env.scope.names.lookup x = some .local := by first | exact .inl rfl | exact .inr rfl | assumption) : PG X (.Name x pos) (gName i) := by
  intro pins s σ H v u Q I r h
  exact wpAny_assign_Name (store_ok I hN hi hx r (fun s' I' => ⟨_, H, I', h⟩) hf)
def gNil : TGs := fun vs σ H Q => vs = [] ∧ Q σ H
def gCons (t : TG) (u : TGs) : TGs := fun vs σ H Q => ∃ v r, vs = v :: r ∧ t v σ H fun σ' H' => u r σ' H' Q
theorem pgs_nil : PGs X [] gNil := by
  intro pins s σ H vs us Q I r h
  obtain ⟨e, h⟩ := h
  subst e
  cases r
  exact assignInOrder_nil ⟨σ, H, I, h⟩
theorem pgs_cons {e : Expr} {es : List Expr} {t : TG} {u : TGs} (h1 : PG X e t) (h2 : PGs X es u)
    (hs : (assignEach (e :: es) X.env).map (·.2) = assign e X.env :: (assignEach es X.env).map (·.2) := by rfl) : PGs X (e :: es) (gCons t u) := by
  intro pins s σ H vs us Q I r h
  obtain ⟨v, vr, e1, h⟩ := h
  subst e1
  cases r with
  | cons r rr =>
    rw [hs]
    refine assignInOrder_cons (thn (h1 pins s σ H _ _ _ I r h) fun _ s1 ⟨σ1, H1, I1, q1⟩ => ?_)
    exact h2 pins s1 σ1 H1 _ _ Q I1 rr q1
/-- (a, b, ..) = a tuple of that length -/
inductive gTup (K : PySem.W.Frag) (n : Nat) (t : TGs) (v : V) (σ : St) (H : Hp) (Q : St → Hp → Prop) : Prop
  | mk (a : _) (xs : _) (_ : v = .ref a) (_ : SqT K H a xs) (_ : xs.length = n) (_ : t xs σ H Q) : gTup K n t v σ H Q
theorem pg_tup {es : List Expr} {k : Nat} {t : TGs} {n : Nat} (hc : X.calm = true) (h : PGs X es t)
    (hn : (assignEach es X.env).length = n := by rfl) (hst : (assignEach es X.env).findIdx? (·.1) = none := by rfl) : PG X (.Tuple es k pos) (gTup X.K n t) := by
  intro pins s σ H v u Q I r hw
  obtain ⟨a, xs, e1, hq, hl, hw⟩ := hw
  subst e1
  cases r
  obtain ⟨its, rv, ht, hz⟩ := I.tuple hq
  refine assign_Tuple_tuple (I.ok.hd hc) ht (by simp [hn, ← hl, rv.length]) hst fun h' hx => ?_
  have I1 : Inv X pins σ H { s with heap := h' } := I.kept (t' := s.toks) fun b o e => hx b o (Nat.ne_of_lt (Heap.lt_size e)) e
  exact h pins _ σ H xs _ Q I1 (by simpa using rv) hw
/-- o[i] = .. -/
def gSub (to ti : TE) (t : TSet) : TG := fun v σ H Q => to σ H fun o H1 => ti σ H1 fun i H2 => t o i v H2 fun H3 => Q σ H3
theorem pg_sub {o i : Expr} {to ti : TE} {t : TSet} (ho : PE X o to) (hi : PE X i ti) (hs : PSet X t)
    (ha : ∀ v, assign (.Subscript o i pos) X.env v = (do
      let ov ← holding [v] (eval o X.env)
      let iv ← holding [v, ov] (eval i X.env)
      standAt pos
      holding [v, ov, iv] (setItem ov iv v)
      release [v, ov, iv] []) := by intro _; rfl) : PG X (.Subscript o i pos) (gSub to ti t) := by
  intro pins s σ H v u Q I r h
  rw [ha]
  refine wpAny_bind (wpAny_holding (thn (ho pins s σ H _ I h) fun ov s1 ⟨x, H1, I1, r1, q1⟩ => ?_))
  refine wpAny_bind (wpAny_holding (thn (hi pins s1 σ H1 _ I1 q1) fun iv s2 ⟨y, H2, I2, r2, q2⟩ => ?_))
  refine wpAny_bind (wpAny_standAt (wpAny_bind (wpAny_holding (thn (hs pins s2 σ H2 x y v ov iv u _ I2 r1 r2 r q2) fun _ s3 ⟨H3, I3, q3⟩ => ?_))))
  exact wpAny_release ⟨σ, H3, I3, q3⟩
/-- target = value -/
def tAsg (te : TE) (g : TG) : TS := fun D σ H => te σ H fun x H1 => g x σ H1 D.nx
theorem ps_asg {tg e : Expr} {te : TE} {g : TG} (he : PE X e te) (hg : PG X tg g) (hs : swapsWithSole [tg] e pos.line X.env = pure false := by rfl) (hw : swappedStores [tg] e X.env = pure none := by rfl)
    (h1 : (assignEach [tg] X.env).map (·.2) = [assign tg X.env] := by rfl) : PS X (.Assign [tg] e pos) (tAsg te g) := by
  intro pins s σ H D I h
  refine wpAny_Assign_stores (thn (he pins s σ H _ I h) fun v s1 ⟨x, H1, I1, r1, q1⟩ => ?_) hs hw
  rw [h1]
  exact thn (hg pins s1 σ H1 x v _ I1 r1 q1) fun _ s2 q => q
/-- name = value -/
theorem ps_set {i : Nat} {x : Str} {e : Expr} {te : TE} {pos' : Pos} (hN : X.N.Nodup) (hi : X.N[i]? = some x) (hx : Loc X.env.scope x) (he : PE X e te) (hs : swapsWith e (some (.Name x pos')) pos.line X.env = pure false := by rfl) (hf : X.fn x = true ∨ X.env.scope.names.lookup x = some .local := by first | exact .inl rfl | exact .inr rfl | assumption) :
    PS X (.Assign [.Name x pos'] e pos) (tAsg te (gName i)) := by
  intro pins s σ H D I h
  refine wpAny_Assign_Name (thn (he pins s σ H _ I h) fun v s1 ⟨y, H1, I1, r1, q1⟩ => ?_) hs
  exact store_ok I1 hN hi hx r1 (fun s2 I2 => ⟨_, H1, I2, q1⟩) hf
end

/-! ### while -/
section
variable {X : Cx} {pos : Pos}
end

/-! ### what a loop or a comprehension walks -/
/-- at turn i: it yields x (the heap may grow), or it stops -/
structure It where
  go : Nat → Hp → Prop
  yld : Nat → Hp → V → Hp → Prop
  stop : Nat → Hp → Prop
/-- the iterator's own objects may turn: they are not the frame's, not pinned, younger than the entry (or a comprehension's own) -/
def FpOk (X : Cx) (pins : List (Addr × Obj)) (H : Hp) (b : Addr) : Prop :=
  H b = none ∧ b ≠ X.env.locals ∧ b ∉ X.fs ∧ (b ∈ X.ex ∨ X.s₀.heap.objs.size ≤ b) ∧ (∀ x c, X.env.cells.lookup x = some c → c ≠ b) ∧ ∀ p ∈ X.pn ++ pins, p.1 ≠ b
theorem Inv.fpOk {X : Cx} {pins : List (Addr × Obj)} {σ : St} {H H' : Hp} {s : Shared} {b : Addr} (I : Inv X pins σ H s) (hb : s.heap.objs.size ≤ b) (hn : H' b = none) : FpOk X pins H' b := by
  refine ⟨hn, Nat.ne_of_gt (Nat.lt_of_lt_of_le I.lt hb), I.nofs hb, .inr (Nat.le_trans I.sz hb), fun x c e z => ?_, fun p hp z => ?_⟩
  · obtain ⟨v, q⟩ := I.cell x c e
    exact absurd (Nat.lt_of_lt_of_le q.lt (by rw [z]; exact hb)) (Nat.lt_irrefl _)
  · exact absurd (Nat.lt_of_lt_of_le (Heap.lt_size (I.pin p hp).1) (by rw [z]; exact hb)) (Nat.lt_irrefl _)
structure Turn (P : Program) (w : World) (K : PySem.W.Frag) (tg : Expr) (J : It) (fp : List Addr) (it : Addr) (tn : Nat → Heap → Prop) : Prop where
  mem : it ∈ fp
  obj : ∀ i h, tn i h → ∀ b ∈ fp, ∃ o, h.get? b = some o ∧ ∀ v, o.data ≠ .cell v
  keep : ∀ i h h', tn i h → (∀ b ∈ fp, ∀ o, h.get? b = some o → h'.get? b = some o) → tn i h'
  item : ∀ (X : Cx), X.prog = P → X.w = w → X.K = K → X.calm = true → ∀ (i : Nat) (pins : List (Addr × Obj)) (s : Shared) (σ : St) (H : Hp) (E : Value → Shared → Prop), Inv X pins σ H s → (∀ b ∈ fp, FpOk X pins H b) → tn i s.heap → J.go i H →
    wpAny (model P w) X.A (pyNext (.ref it)) (fun r s1 => ∃ u, r = some u ∧
      wpAny (model P w) X.A (letOwnedTupleGo tg (.ref it) u) (fun _ s2 => ∃ x H', Inv X pins σ H' s2 ∧ RelV x u ∧ J.yld i H x H' ∧ tn (i + 1) s2.heap ∧ ∀ b ∈ fp, H' b = none) E s1) E s
  done : ∀ (X : Cx), X.prog = P → X.w = w → X.K = K → X.calm = true → ∀ (i : Nat) (pins : List (Addr × Obj)) (s : Shared) (σ : St) (H : Hp) (E : Value → Shared → Prop), Inv X pins σ H s → (∀ b ∈ fp, FpOk X pins H b) → tn i s.heap → J.stop i H →
    wpAny (model P w) X.A (pyNext (.ref it)) (fun r s1 => r = none ∧ Inv X pins σ H s1) E s
  self : ∀ (A : Around) (i : Nat) (s : Shared) (Q : Value → Shared → Prop) (E : Value → Shared → Prop), tn i s.heap → Q (.ref it) s → wpAny (model P w) A (pyIter (.ref it)) Q E s
abbrev TI := St → Hp → (It → Hp → Prop) → Prop
/-- an iterator has come -/
def PIE (X : Cx) (pins : List (Addr × Obj)) (σ : St) (tg : Expr) (R : It → Hp → Prop) (itv : Value) (s2 : Shared) : Prop :=
  ∃ (it : Addr) (fp : List Addr) (tn : Nat → Heap → Prop) (J : It) (H' : Hp), itv = .ref it ∧ Inv X pins σ H' s2 ∧ Turn X.prog X.w X.K tg J fp it tn ∧ tn 0 s2.heap ∧ (∀ b ∈ fp, FpOk X pins H' b) ∧ R J H'
def PI (X : Cx) (tg iter : Expr) (wi : TI) : Prop :=
  ∀ (pins : List (Addr × Obj)) (s : Shared) (σ : St) (H : Hp) (R : It → Hp → Prop), Inv X pins σ H s → wi σ H R →
    wpAny (model X.prog X.w) X.A (eval iter X.env) (fun v s1 => wpAny (model X.prog X.w) X.A (pyIter v) (PIE X pins σ tg R) X.xe s1) X.xe s

/-- the step ahead of the store is nothing for an iterator that keeps no tuple -/
theorem go_of {M : Model} {A : Around} {E : Value → Shared → Prop} {s : Shared} {tg : Expr} {it : Addr} {u : Value} {o : Obj} {n : String} {vs : Array Value} {Q : Unit → Shared → Prop} (ho : s.heap.get? it = some o) (hc : o.cls = .type n) (hd : o.data = .fields vs)
    (hn : ["enumerate", "zip", "dict_itemiterator", "dict_reverseitemiterator", "odict_iterator", "itertools.zip_longest", "itertools.pairwise"].contains n = false) (hQ : Q () s) : wpAny M A (letOwnedTupleGo tg (.ref it) u) Q E s := by
  unfold letOwnedTupleGo
  cases tg <;> first
    | exact wpAny_pure hQ
    | (cases u <;> first
        | exact wpAny_pure hQ
        | (refine wpAny_bind (wpAny_load ho ?_)
           rw [hc, hd]
           show wpAny M A (if (["enumerate", "zip", "dict_itemiterator", "dict_reverseitemiterator", "odict_iterator", "itertools.zip_longest", "itertools.pairwise"].contains n && vs[0]? == some (rawInt _)) = true then _ else _) Q E s
           rw [if_neg (by intro h; rw [hn, Bool.false_and] at h; cases h)]
           exact wpAny_pure hQ))

/-- the list at a, as it stands at each turn (a loop may append to it) -/
def Itl (K : PySem.W.Frag) (a : Addr) : It :=
  ⟨fun i H => ∃ xs x, SqL K H a xs ∧ xs[i]? = some x, fun i H x H' => H' = H ∧ ∀ xs, SqL K H a xs → xs[i]? = some x, fun i H => ∃ xs, SqL K H a xs ∧ xs.length ≤ i⟩
/-- lo, lo + 1, .. (n of them) -/
def Itr (lo : Int) (n : Nat) : It := ⟨fun i _ => i < n, fun i H x H' => H' = H ∧ x = .int (lo + i), fun i _ => n ≤ i⟩
theorem turn_list {P : Program} {w : World} {K : PySem.W.Frag} {tg : Expr} (a it : Addr) : Turn P w K tg (Itl K a) [it] it (fun i h => h.IsListIter it a i) where
  mem := by simp
  obj := fun i h st b hb => by
    have e : b = it := by simpa using hb
    subst e
    obtain ⟨o, e, c, d⟩ := st
    exact ⟨o, e, fun v z => by rw [d] at z; cases z⟩
  keep := fun i h h' st k => st.at fun o e => k it (by simp) o e
  item := by
    intro X hP hw hK hc i pins s σ H E I hf st hg
    subst hP hw hK
    obtain ⟨xs, x, hq, hx⟩ := hg
    obtain ⟨its, rv, p, hz⟩ := I.list hq
    obtain ⟨u, hu, ru⟩ := rv.get hx
    obtain ⟨f0, f1, f2, f3, f4, f5⟩ := hf it (by simp)
    refine wpAny_pyNext_list_item st p.isList (x := u) (by simpa using hu) fun h' st' sb => ?_
    have I1 : Inv X pins σ H { s with heap := h' } := I.turned (t' := s.toks) (fun b o hb e => (sb.2 b hb).trans e) f0 f1 f3 f4 f5
    obtain ⟨o, e, c, d⟩ := id st'
    exact ⟨u, rfl, go_of (s := { s with heap := h' }) e c d (by decide) ⟨x, H, I1, ru, ⟨rfl, fun ys hy => by rw [I.list_inj hy hq]; exact hx⟩, st', fun b hb => (hf b hb).1⟩⟩
  done := by
    intro X hP hw hK hc i pins s σ H E I hf st hg
    subst hP hw hK
    obtain ⟨xs, hq, hx⟩ := hg
    obtain ⟨its, rv, p, hz⟩ := I.list hq
    obtain ⟨f0, f1, f2, f3, f4, f5⟩ := hf it (by simp)
    have hl := rv.length
    exact wpAny_pyNext_list_end (I.ok.hd hc) st p.isList (by simp; omega) fun h' eb => ⟨rfl, I.turned (t' := s.toks) (fun b o hb e => eb b o hb e) f0 f1 f3 f4 f5⟩
  self := fun _ _ _ _ _ st h => wpAny_pyIter_listiter st h
theorem turn_range {P : Program} {w : World} {K : PySem.W.Frag} {tg : Expr} (it : Addr) (lo : Int) (n : Nat) : Turn P w K tg (Itr lo n) [it] it (fun i h => IsRangeIter h it (lo + (i : Nat) * 1) ((n : Int) - (i : Nat)) 1) where
  mem := by simp
  obj := fun i h st b hb => by
    have e : b = it := by simpa using hb
    subst e
    exact ⟨_, st, fun v z => by
      have z' : Data.fields _ = Data.cell v := z
      cases z'⟩
  keep := fun i h h' st k => k it (by simp) _ st
  item := by
    intro X hP hw hK hc i pins s σ H E I hf st hg
    subst hP hw hK
    obtain ⟨f0, f1, f2, f3, f4, f5⟩ := hf it (by simp)
    have W := Walks.range (prog := X.prog) (w := X.w) (I.ok.hd hc) it lo 1 n
    refine W.item i s _ _ hg st fun v h' tk hv st' kk => ?_
    obtain ⟨t, rfl⟩ := hv
    have I1 : Inv X pins σ H { s with heap := h', toks := tk } := I.turned (fun b o hb e => kk b o (by simpa using hb) e) f0 f1 f3 f4 f5
    refine ⟨_, rfl, go_of (s := { s with heap := h', toks := tk }) (n := "range_iterator") st' rfl rfl (by decide) ⟨.int (lo + i), H, I1, ⟨t, ?_⟩, ⟨rfl, rfl⟩, st', fun b hb => (hf b hb).1⟩⟩
    rw [Int.mul_one]
  done := by
    intro X hP hw hK hc i pins s σ H E I hf st hg
    subst hP hw hK
    obtain ⟨f0, f1, f2, f3, f4, f5⟩ := hf it (by simp)
    exact wpAny_pyNext_range_end (I.ok.hd hc) st (by have : n ≤ i := hg; omega) fun h' eb => ⟨rfl, I.turned (t' := s.toks) (fun b o hb e => eb b o hb e) f0 f1 f3 f4 f5⟩
  self := fun _ _ _ _ _ st h => wpAny_pyIter_rangeiter st h
end L2

namespace L2
open PySem PySem.Spec PyProof.Rows
section
variable {X : Cx} {tg : Expr}
def iList (K : PySem.W.Frag) (tl : TE) : TI := fun σ H R => tl σ H fun x H1 => ∃ a, x = .ref a ∧ (∃ xs, SqL K H1 a xs) ∧ R (Itl K a) H1
theorem pi_list {l : Expr} {tl : TE} (hl : PE X l tl) : PI X tg l (iList X.K tl) := by
  intro pins s σ H R I h
  refine thn (hl pins s σ H _ I h) fun v s1 ⟨x, H1, I1, r1, q1⟩ => ?_
  obtain ⟨a, e, ⟨xs, hq⟩, q⟩ := q1
  subst e
  cases r1
  obtain ⟨its, rv, p, hz⟩ := I1.list hq
  refine wpAny_pyIter_list p.isList ?_
  refine ⟨s1.heap.objs.size, [s1.heap.objs.size], _, _, H1, rfl, I1.kept (t' := s1.toks) fun b o e => Heap.get?_push_of_some _ e, turn_list a _, ⟨_, Heap.get?_push_size _ rfl, rfl, rfl⟩, fun b hb => ?_, q⟩
  have e : b = s1.heap.objs.size := by simpa using hb
  subst e
  exact I1.fpOk (Nat.le_refl _) (I1.hok.fresh (Nat.le_refl _))
/-- a range object just made, walked -/
theorem range_it {pins : List (Addr × Obj)} {σ : St} {H : Hp} {s : Shared} {R : It → Hp → Prop} {E : Value → Shared → Prop} {lo hi : Int} {t u v : Tok} {tk : Nat} (I : Inv X pins σ H s) (h1 : -(2 ^ 62) ≤ lo) (h2 : lo < 2 ^ 62) (h3 : -(2 ^ 62) ≤ hi) (h4 : hi < 2 ^ 62)
    (q : R (Itr lo (hi - lo).toNat) H) : wpAny (model X.prog X.w) X.A (pyIter (.ref s.heap.objs.size)) (PIE X pins σ tg R) E { s with heap := s.heap.push { cls := .type "range", data := .fields #[.int lo t, .int hi u, .int 1 v] }, toks := tk } := by
  refine wpAny_pyIter_range (IsRange.new ..) (small_one h1 h2 h3 h4) ?_
  have I1 : Inv X pins σ H { s with heap := s.heap.push { cls := .type "range", data := .fields #[.int lo t, .int hi u, .int 1 v] }, toks := tk } := I.kept fun b o e => Heap.get?_push_of_some _ e
  refine ⟨(s.heap.push { cls := .type "range", data := .fields #[.int lo t, .int hi u, .int 1 v] }).objs.size, [(s.heap.push { cls := .type "range", data := .fields #[.int lo t, .int hi u, .int 1 v] }).objs.size], _, _, H, rfl,
    I1.kept (t' := tk) fun b o e => Heap.get?_push_of_some _ e, turn_range _ lo (hi - lo).toNat, ?_, fun b hb => ?_, q⟩
  · have e1 : lo + ((0 : Nat) : Int) * 1 = lo := by simp
    have e2 : (((hi - lo).toNat : Nat) : Int) - ((0 : Nat) : Int) = Builtin.Range.rangeSize lo hi 1 := by rw [rangeSize_one]; split <;> omega
    show IsRangeIter _ _ (lo + ((0 : Nat) : Int) * 1) ((((hi - lo).toNat : Nat) : Int) - ((0 : Nat) : Int)) 1
    rw [e1, e2]
    exact Heap.get?_push_size _ rfl
  · have e : b = (s.heap.push { cls := .type "range", data := .fields #[.int lo t, .int hi u, .int 1 v] }).objs.size := by simpa using hb
    subst e
    exact I1.fpOk (Nat.le_refl _) (I1.hok.fresh (Nat.le_refl _))
def iRng1 (ta : TA) : TI := fun σ H R => ta σ H fun vs H1 => ∃ j : Int, vs = [.int j] ∧ -(2 ^ 62) ≤ j ∧ j < 2 ^ 62 ∧ R (Itr 0 j.toNat) H1
theorem pi_range1 {a : Expr} {ta : TA} {p pos : Pos} (hg : Gl X "range") (hm : X.mg "range" = none) (ha : PA X [a] ta) (hs : starEach [a] X.env = [(false, eval a X.env)] := by rfl) : PI X tg (.Call (.Name "range" p) [a] [] pos) (iRng1 ta) := by
  intro pins s σ H R I h
  refine Call_ (ld_blt I hg hm boot_range (PyProof.Rows.callWith_type1 (thn (ha pos pins s σ H _ I h) fun us s1 ⟨vs, H1, I1, r1, q1⟩ => ?_) hs rfl))
  obtain ⟨j, e, q1, q2, q⟩ := q1
  subst e
  cases r1 with
  | cons r rr =>
    cases rr
    obtain ⟨t, rfl⟩ := r
    exact call_range_1 (range_it I1 (by omega) (by omega) q1 q2 (by simpa using q))
/-! ### for -/
/-- W: the invariant by the turn and a measure; N: what the body is to reach -/
def tFor (wi : TI) (g : TG) (tb : TS) : TS := fun D σ H => wi σ H fun J H1 => ∃ W : Nat → Nat → St → Hp → Prop, (∃ m, W 0 m σ H1) ∧ ∀ i m σ H, W i m σ H →
  (J.stop i H ∧ D.nx σ H) ∨ (J.go i H ∧ ∃ N : St → Hp → Prop, (∀ σ' H', N σ' H' → ∃ m', m' < m ∧ W (i + 1) m' σ' H') ∧ ∀ x H', J.yld i H x H' → g x σ H' fun σ2 H2 => tb { D with nx := N, ct := N, bk := D.nx } σ2 H2)
/-- the records at fp as they stand -/
def pinsAt (fp : List Addr) (h : Heap) : List (Addr × Obj) := fp.filterMap fun b => (h.get? b).map fun o => (b, o)
theorem mem_pinsAt {fp : List Addr} {h : Heap} {b : Addr} {o : Obj} (hb : b ∈ fp) (e : h.get? b = some o) : (b, o) ∈ pinsAt fp h := List.mem_filterMap.mpr ⟨b, hb, by rw [e]; rfl⟩
theorem of_pinsAt {fp : List Addr} {h : Heap} {p : Addr × Obj} (hp : p ∈ pinsAt fp h) : p.1 ∈ fp ∧ h.get? p.1 = some p.2 := by
  obtain ⟨b, hb, e⟩ := List.mem_filterMap.mp hp
  cases q : h.get? b with
  | none => rw [q] at e; cases e
  | some o =>
    rw [q] at e
    have e' : (b, o) = p := Option.some.inj e
    subst e'
    exact ⟨hb, q⟩
theorem Inv.pinned {pins : List (Addr × Obj)} {σ : St} {H : Hp} {s : Shared} {fp : List Addr} (I : Inv X pins σ H s) (hf : ∀ b ∈ fp, FpOk X pins H b) (ho : ∀ b ∈ fp, ∃ o, s.heap.get? b = some o ∧ ∀ v, o.data ≠ .cell v) : Inv X (pins ++ pinsAt fp s.heap) σ H s :=
  I.pins_of fun p hp => (List.mem_append.mp hp).elim (fun z => I.pin p (List.mem_append_right _ z)) fun z => by
    obtain ⟨hb, e⟩ := of_pinsAt z
    obtain ⟨f0, f1, f2, _⟩ := hf p.1 hb
    obtain ⟨o, e', d⟩ := ho p.1 hb
    rw [e] at e'; cases e'
    exact ⟨e, f0, f1, f2, d⟩
theorem Inv.unpinned {pins pl : List (Addr × Obj)} {σ : St} {H : Hp} {s : Shared} (I : Inv X (pins ++ pl) σ H s) : Inv X pins σ H s := I.pins_of fun p hp => I.pin p (List.mem_append_right _ (List.mem_append_left _ hp))
theorem ps_for {iter : Expr} {body : List Stmt} {wi : TI} {g : TG} {tb : TS} {pos : Pos} (hp : PassesOwn (model X.prog X.w) X.A X.env X.xe) (hc : X.calm = true) (hi : PI X tg iter wi) (hg : PG X tg g) (hb : PSs X body tb)
    (hs : ∀ x, foldedSetIterable iter X.env x = pure x := by intro _; rfl) : PS X (.For tg iter body [] pos) (tFor wi g tb) := by
  intro pins s σ H D I h
  refine wpAny_For (thn (hi pins s σ H _ I h) fun v s1 h1 => thn h1 fun itv s2 h2 => ?_) hs
  obtain ⟨it, fp, tn, J, H2, e, I2, T, st2, f2, W, ⟨m0, w0⟩, turn⟩ := h2
  subst e
  -- what stays true of the iterator's objects through the loop
  have stat : ∀ {H' : Hp}, (∀ b ∈ fp, H' b = none) → ∀ b ∈ fp, FpOk X pins H' b := fun hn b hb => ⟨hn b hb, (f2 b hb).2⟩
  refine codeAny_forLoop_any (fun n s' => ∃ i σ' H', Inv X pins σ' H' s' ∧ tn i s'.heap ∧ (∀ b ∈ fp, H' b = none) ∧ W i n σ' H') ?_ m0 ⟨0, σ, H2, I2, st2, fun b hb => (f2 b hb).1, w0⟩
  rintro n s3 ⟨i, σ3, H3, I3, st3, fr3, w3⟩
  rcases turn i n σ3 H3 w3 with ⟨stop, qn⟩ | ⟨go, N, hN, step⟩
  · refine wpAny_passesOwn hp (thn (T.done X rfl rfl rfl hc i pins s3 σ3 H3 X.xe I3 (stat fr3) st3 stop) fun r s4 ⟨hr, I4⟩ => ?_)
    subst hr
    exact wpAny_execs_nil ⟨σ3, H3, I4, qn⟩
  · refine wpAny_passesOwn hp (thn (T.item X rfl rfl rfl hc i pins s3 σ3 H3 X.xe I3 (stat fr3) st3 go) fun r s4 ⟨u, hr, h4⟩ => ?_)
    subst hr
    refine wpAny_passesOwn hp (thn h4 fun _ s5 ⟨x, H5, I5, r5, y5, st5, fr5⟩ => ?_)
    have I5' := I5.pinned (stat fr5) (T.obj _ _ st5)
    refine wpAny_passesOwn hp (thn (hg _ s5 σ3 H5 x u _ I5' r5 (step x H5 y5)) fun _ s6 ⟨σ6, H6, I6, q6⟩ => ?_)
    refine wpAny_passesOwn hp (thn (hb _ s6 σ6 H6 _ I6 q6) fun f s7 q7 => ?_)
    have again : ∀ {σ7 : St} {H7 : Hp}, Inv X (pins ++ pinsAt fp s5.heap) σ7 H7 s7 → N σ7 H7 → ∃ m, m < n ∧ ∃ i σ' H', Inv X pins σ' H' s7 ∧ tn i s7.heap ∧ (∀ b ∈ fp, H' b = none) ∧ W i m σ' H' := fun {σ7 H7} I7 n7 => by
      obtain ⟨m', hm, w7⟩ := hN σ7 H7 n7
      refine ⟨m', hm, i + 1, σ7, H7, I7.unpinned, T.keep _ _ _ st5 fun b hb o e => (I7.pin (b, o) (List.mem_append_right _ (List.mem_append_right _ (mem_pinsAt hb e)))).1, fun b hb => ?_, w7⟩
      obtain ⟨o, e, d⟩ := T.obj _ _ st5 b hb
      exact (I7.pin (b, o) (List.mem_append_right _ (List.mem_append_right _ (mem_pinsAt hb e)))).2.1
    cases f with
    | next => obtain ⟨σ7, H7, I7, n7⟩ := q7; exact again I7 n7
    | cont => obtain ⟨σ7, H7, I7, n7⟩ := q7; exact again I7 n7
    | brk => obtain ⟨σ7, H7, I7, q7⟩ := q7; exact ⟨σ7, H7, I7.unpinned, q7⟩
    | ret v => obtain ⟨x7, σ7, H7, I7, r7, q7⟩ := q7; exact ⟨x7, σ7, H7, I7.unpinned, r7, q7⟩
end

/-! ### the forms one uses -/
/-- over a list that the body leaves as it is -/
theorem for_list {K : PySem.W.Frag} {a : Addr} {xs : List V} {g : TG} {tb : TS} {D : Ends} {σ : St} {H : Hp} (Pv : Nat → St → Hp → Prop) (h0 : Pv 0 σ H) (hl : ∀ i σ H, i ≤ xs.length → Pv i σ H → SqL K H a xs)
    (hs : ∀ i x σ H, xs[i]? = some x → Pv i σ H → g x σ H fun σ2 H2 => tb { D with nx := Pv (i + 1), ct := Pv (i + 1), bk := D.nx } σ2 H2) (hd : ∀ σ H, Pv xs.length σ H → D.nx σ H) :
    ∃ W : Nat → Nat → St → Hp → Prop, (∃ m, W 0 m σ H) ∧ ∀ i m σ H, W i m σ H →
      ((Itl K a).stop i H ∧ D.nx σ H) ∨ ((Itl K a).go i H ∧ ∃ N : St → Hp → Prop, (∀ σ' H', N σ' H' → ∃ m', m' < m ∧ W (i + 1) m' σ' H') ∧ ∀ x H', (Itl K a).yld i H x H' → g x σ H' fun σ2 H2 => tb { D with nx := N, ct := N, bk := D.nx } σ2 H2) := by
  refine ⟨fun i m σ H => m = xs.length - i ∧ i ≤ xs.length ∧ Pv i σ H, ⟨xs.length, by simp, Nat.zero_le _, h0⟩, ?_⟩
  rintro i m σ H ⟨rfl, hi, p⟩
  have q := hl i σ H hi p
  by_cases hlt : i < xs.length
  · refine .inr ⟨⟨xs, xs[i], q, by simp [hlt]⟩, Pv (i + 1), fun σ' H' p' => ⟨xs.length - (i + 1), by omega, rfl, hlt, p'⟩, fun x H' y => ?_⟩
    obtain ⟨e, y⟩ := y
    subst e
    exact hs i x σ _ (y xs q) p
  · have e : i = xs.length := by omega
    subst e
    exact .inl ⟨⟨xs, q, Nat.le_refl _⟩, hd σ H p⟩
theorem for_range {lo : Int} {n : Nat} {g : TG} {tb : TS} {D : Ends} {σ : St} {H : Hp} (Pv : Nat → St → Hp → Prop) (h0 : Pv 0 σ H)
    (hs : ∀ i σ H, i < n → Pv i σ H → g (.int (lo + i)) σ H fun σ2 H2 => tb { D with nx := Pv (i + 1), ct := Pv (i + 1), bk := D.nx } σ2 H2) (hd : ∀ σ H, Pv n σ H → D.nx σ H) :
    ∃ W : Nat → Nat → St → Hp → Prop, (∃ m, W 0 m σ H) ∧ ∀ i m σ H, W i m σ H →
      ((Itr lo n).stop i H ∧ D.nx σ H) ∨ ((Itr lo n).go i H ∧ ∃ N : St → Hp → Prop, (∀ σ' H', N σ' H' → ∃ m', m' < m ∧ W (i + 1) m' σ' H') ∧ ∀ x H', (Itr lo n).yld i H x H' → g x σ H' fun σ2 H2 => tb { D with nx := N, ct := N, bk := D.nx } σ2 H2) := by
  refine ⟨fun i m σ H => m = n - i ∧ i ≤ n ∧ Pv i σ H, ⟨n, by simp, Nat.zero_le _, h0⟩, ?_⟩
  rintro i m σ H ⟨rfl, hi, p⟩
  by_cases hlt : i < n
  · refine .inr ⟨hlt, Pv (i + 1), fun σ' H' p' => ⟨n - (i + 1), by omega, rfl, hlt, p'⟩, fun x H' y => ?_⟩
    obtain ⟨e, y⟩ := y
    subst e y
    exact hs i σ _ hlt p
  · have e : i = n := by omega
    subst e
    exact .inl ⟨Nat.le_refl _, hd σ H p⟩
end L2

namespace L2
open PySem PySem.Spec PyProof.Rows

abbrev R2 := V → V → Hp → VK → Prop
/-- a two-place operation on values: f is binaryOp op, inplaceOp op or compareOp op -/
def OpR (X : Cx) (f : Value → Value → Sem Value) (r : R2) : Prop :=
  ∀ (pins : List (Addr × Obj)) (s : Shared) (σ : St) (H : Hp) (x y : V) (v u : Value) (Q : VK), Inv X pins σ H s → RelV x v → RelV y u → r x y H Q →
    wpAny (model X.prog X.w) X.A (f v u) (EP X pins σ Q) X.xe s
/-- a one-place operation -/
def UnR (X : Cx) (f : Value → Sem Value) (r : V → Hp → VK → Prop) : Prop :=
  ∀ (pins : List (Addr × Obj)) (s : Shared) (σ : St) (H : Hp) (x : V) (v : Value) (Q : VK), Inv X pins σ H s → RelV x v → r x H Q →
    wpAny (model X.prog X.w) X.A (f v) (EP X pins σ Q) X.xe s
/-- a call of a value that is known (a builtin, a type) with values -/
def CallR (X : Cx) (f : Value) (r : List V → Hp → VK → Prop) : Prop :=
  ∀ (pins : List (Addr × Obj)) (s : Shared) (σ : St) (H : Hp) (xs : List V) (us : List Value) (Q : VK), Inv X pins σ H s → Vals xs us → r xs H Q →
    wpAny (model X.prog X.w) X.A (call f us) (EP X pins σ Q) X.xe s
def tOp (r : R2) (ta tb : TE) : TE := fun σ H Q => ta σ H fun x H1 => tb σ H1 fun y H2 => r x y H2 Q
def tUn (r : V → Hp → VK → Prop) (ta : TE) : TE := fun σ H Q => ta σ H fun x H1 => r x H1 Q
/-- ints in, under C, and a value out -/
inductive rI (C : Int → Int → Prop) (g : Int → Int → V) (x : V) (y : V) (H : Hp) (Q : VK) : Prop
  | mk (i : _) (j : _) (_ : x = .int i) (_ : y = .int j) (_ : C i j) (_ : Q (g i j) H) : rI C g x y H Q
inductive rI0 (g : Int → Int → V) (x : V) (y : V) (H : Hp) (Q : VK) : Prop
  | mk (i : _) (j : _) (_ : x = .int i) (_ : y = .int j) (_ : Q (g i j) H) : rI0 g x y H Q
inductive rU (g : Int → V) (x : V) (H : Hp) (Q : VK) : Prop
  | mk (i : _) (_ : x = .int i) (_ : Q (g i) H) : rU g x H Q

section
variable {X : Cx} {a b c : Expr} {ta tb tc : TE} {pos : Pos}

theorem binT (ha : PE X a ta) (hb : PE X b tb) {pins : List (Addr × Obj)} {s : Shared} {σ : St} {H : Hp} {R : V → V → Hp → Prop} (I : Inv X pins σ H s)
    (h : ta σ H fun x H1 => tb σ H1 fun y H2 => R x y H2) {Q : Value → Shared → Prop} {f : Value → Value → Sem Value}
    (hf : ∀ v u s2 x y H2, Inv X pins σ H2 s2 → RelV x v → RelV y u → R x y H2 → wpAny (model X.prog X.w) X.A (f v u) Q X.xe s2) :
    wpAny (model X.prog X.w) X.A (eval a X.env) (fun v s₁ => wpAny (model X.prog X.w) X.A (eval b X.env) (fun u s₂ => wpAny (model X.prog X.w) X.A (f v u) Q X.xe s₂) X.xe s₁) X.xe s := by
  refine thn (ha pins s σ H _ I h) fun v s1 ⟨x, H1, I1, r1, q1⟩ => ?_
  refine thn (hb pins s1 σ H1 _ I1 q1) fun u s2 ⟨y, H2, I2, r2, q2⟩ => ?_
  exact hf v u s2 x y H2 I2 r1 r2 q2

theorem pe_op {op : Operator} {r : R2} (ho : OpR X (binaryOp op) r) (ha : PE X a ta) (hb : PE X b tb) : PE X (.BinOp a op b pos) (tOp r ta tb) := by
  intro pins s σ H Q I h
  exact wpAny_BinOp (binT ha hb I h fun v u s2 x y H2 I2 rx ry q => ho pins s2 σ H2 x y v u Q I2 rx ry q)
theorem pe_un {op : UnaryOp} {r : V → Hp → VK → Prop} (ho : UnR X (unaryOp op) r) (ha : PE X a ta) : PE X (.UnaryOp op a pos) (tUn r ta) := by
  intro pins s σ H Q I h
  exact UnaryOp_ (thn (ha pins s σ H _ I h) fun v s1 ⟨x, H1, I1, r1, q1⟩ => ho pins s1 σ H1 x v Q I1 r1 q1)
/-! ### ints -/
theorem opI {f : Value → Value → Sem Value} {C : Int → Int → Prop} {g : Int → Int → Int}
    (rule : ∀ (i j : Int) (t u : Tok) (s : Shared) (Q : Value → Shared → Prop) (E : Value → Shared → Prop), C i j → Q (.int (g i j) s.toks) { s with toks := s.toks + 1 } → wpAny (model X.prog X.w) X.A (f (.int i t) (.int j u)) Q E s) :
    OpR X f (rI C fun i j => .int (g i j)) := by
  intro pins s σ H x y v u Q I rx ry h
  obtain ⟨i, j, rfl, rfl, hc, q⟩ := h
  obtain ⟨t, rfl⟩ := rx
  obtain ⟨t', rfl⟩ := ry
  exact rule i j t t' s _ _ hc ⟨.int (g i j), H, I.tok _, ⟨_, rfl⟩, q⟩
theorem opI0 {f : Value → Value → Sem Value} {g : Int → Int → Int}
    (rule : ∀ (i j : Int) (t u : Tok) (s : Shared) (Q : Value → Shared → Prop) (E : Value → Shared → Prop), Q (.int (g i j) s.toks) { s with toks := s.toks + 1 } → wpAny (model X.prog X.w) X.A (f (.int i t) (.int j u)) Q E s) :
    OpR X f (rI0 fun i j => .int (g i j)) := by
  intro pins s σ H x y v u Q I rx ry h
  obtain ⟨i, j, rfl, rfl, q⟩ := h
  obtain ⟨t, rfl⟩ := rx
  obtain ⟨t', rfl⟩ := ry
  exact rule i j t t' s _ _ ⟨.int (g i j), H, I.tok _, ⟨_, rfl⟩, q⟩
theorem opB0 {f : Value → Value → Sem Value} {g : Int → Int → Bool}
    (rule : ∀ (i j : Int) (t u : Tok) (s : Shared) (Q : Value → Shared → Prop) (E : Value → Shared → Prop), Q (.bool (g i j)) s → wpAny (model X.prog X.w) X.A (f (.int i t) (.int j u)) Q E s) :
    OpR X f (rI0 fun i j => .bl (g i j)) := by
  intro pins s σ H x y v u Q I rx ry h
  obtain ⟨i, j, rfl, rfl, q⟩ := h
  obtain ⟨t, rfl⟩ := rx
  obtain ⟨t', rfl⟩ := ry
  exact rule i j t t' s _ _ ⟨.bl (g i j), H, I, rfl, q⟩

def CDiv (i j : Int) : Prop := 0 < j ∧ j < 1073741824
def CMul (i j : Int) : Prop := (-(2 ^ 64) < i ∧ i < 2 ^ 64) ∨ (-(2 ^ 64) < j ∧ j < 2 ^ 64)
theorem CMul.ok {i j : Int} (h : CMul i j) : IntMulOk i j := by
  rcases h with ⟨h1, h2⟩ | ⟨h1, h2⟩
  · exact .of_left (intBits_le_64 h1 h2)
  · exact .of_right (intBits_le_64 h1 h2)
theorem op_add : OpR X (binaryOp .Add) (rI0 fun i j => .int (i + j)) := opI0 fun _ _ _ _ _ _ _ q => add_int q
theorem op_sub : OpR X (binaryOp .Sub) (rI0 fun i j => .int (i - j)) := opI0 fun _ _ _ _ _ _ _ q => sub_int q
theorem op_mul : OpR X (binaryOp .Mult) (rI CMul fun i j => .int (i * j)) := opI fun _ _ _ _ _ _ _ hc q => mul_int q hc.ok
/-- // by a positive divisor -/
theorem op_fdiv : OpR X (binaryOp .FloorDiv) (rI CDiv fun i j => .int (i / j)) := opI fun i j _ _ _ _ _ hc q => by
  have h1 : (0 : Int) < j := hc.1
  have h2 : j < 1073741824 := hc.2
  exact floordiv_int (by omega) (by rw [Int.fdiv_eq_ediv_of_nonneg i (by omega)]; exact q) (.inl (PyProof.noPylong_small (by omega)))
/-- % by a positive divisor of any size -/
theorem op_mod : OpR X (binaryOp .Mod) (rI (fun _ j => 0 < j) fun i j => .int (i % j)) := opI fun i j _ _ _ _ _ hc q => by
  have h1 : (0 : Int) < j := hc
  exact mod_int' (by omega) (by rw [Int.fmod_eq_emod_of_nonneg i (by omega)]; exact q)
theorem unI {f : Value → Sem Value} {g : Int → Int}
    (rule : ∀ (i : Int) (t : Tok) (s : Shared) (Q : Value → Shared → Prop) (E : Value → Shared → Prop), Q (.int (g i) s.toks) { s with toks := s.toks + 1 } → wpAny (model X.prog X.w) X.A (f (.int i t)) Q E s) :
    UnR X f (rU fun i => .int (g i)) := by
  intro pins s σ H x v Q I rx h
  obtain ⟨i, rfl, q⟩ := h
  obtain ⟨t, rfl⟩ := rx
  exact rule i t s _ _ ⟨.int (g i), H, I.tok _, ⟨_, rfl⟩, q⟩
theorem un_neg : UnR X (unaryOp .USub) (rU fun i => .int (-i)) := unI fun _ _ _ _ _ q => neg_int q
/-! ### bools among ints: n += (a < b) -/
end

/-! ### comparisons -/
/-- the scalars that == tells apart as data does -/
def scal : V → V → Bool
  | .non, .non => true | .non, .int _ => true | .int _, .non => true | .non, .bl _ => true | .bl _, .non => true | .non, .str _ => true | .str _, .non => true
  | .int _, .int _ => true | .bl _, .bl _ => true | .str _, .str _ => true | .byt _, .byt _ => true
  | .int _, .str _ => true | .str _, .int _ => true | .bl _, .str _ => true | .str _, .bl _ => true
  | _, _ => false
def rEq : R2 := fun x y H Q => scal x y = true ∧ Q (.bl (decide (x = y))) H
def rNe : R2 := fun x y H Q => scal x y = true ∧ Q (.bl (!decide (x = y))) H

theorem dec_int {i j : Int} : decide (V.int i = V.int j) = (i == j) := by
  rw [Bool.eq_iff_iff]
  simp
theorem dec_bl {i j : Bool} : decide (V.bl i = V.bl j) = (i == j) := by
  rw [Bool.eq_iff_iff]
  simp
theorem dec_str {i j : Str} : decide (V.str i = V.str j) = (i == j) := by
  rw [Bool.eq_iff_iff]
  simp
theorem dec_byt {i j : Array UInt8} : decide (V.byt i = V.byt j) = (i.toList == j.toList) := by
  rw [Bool.eq_iff_iff]
  cases i
  cases j
  simp

section
variable {X : Cx} {a b c : Expr} {ta tb tc : TE} {pos : Pos}
theorem fin_bl {pins : List (Addr × Obj)} {σ : St} {H : Hp} {s : Shared} {Q : VK} {k k' : Bool} (I : Inv X pins σ H s) (q : Q (.bl k) H) (e : k = k') : EP X pins σ Q (.bool k') s := by
  subst e
  exact ⟨.bl k, H, I, rfl, q⟩
theorem op_eq : OpR X (compareOp .Eq) rEq := by
  intro pins s σ H x y v u Q I rx ry h
  obtain ⟨hs, q⟩ := h
  cases x with
  | non =>
    cases rx
    cases y with
    | non => cases ry; exact PySem.EqNone.eq_none_none (fin_bl I q (by simp))
    | bl j => cases ry; exact PySem.EqNone.eq_none_bool (fin_bl I q (by simp))
    | int j => obtain ⟨t', rfl⟩ := ry; exact PySem.EqNone.eq_none_int (fin_bl I q (by simp))
    | str j => obtain ⟨t', rfl⟩ := ry; exact PySem.EqNone.eq_none_str (fin_bl I q (by simp))
    | _ => exact absurd (show false = true from hs) Bool.false_ne_true
  | bl i =>
    cases rx
    cases y with
    | non => cases ry; exact PySem.EqNone.eq_bool_none (fin_bl I q (by simp))
    | bl j => cases ry; exact eq_bool (fin_bl I q dec_bl)
    | str j => obtain ⟨t', rfl⟩ := ry; exact PySem.EqMixed.eq_bool_str (fin_bl I q (by simp))
    | _ => exact absurd (show false = true from hs) Bool.false_ne_true
  | int i =>
    obtain ⟨t, rfl⟩ := rx
    cases y with
    | non => cases ry; exact PySem.EqNone.eq_int_none (fin_bl I q (by simp))
    | int j => obtain ⟨t', rfl⟩ := ry; exact eq_int (fin_bl I q dec_int)
    | str j => obtain ⟨t', rfl⟩ := ry; exact PySem.EqMixed.eq_int_str (fin_bl I q (by simp))
    | _ => exact absurd (show false = true from hs) Bool.false_ne_true
  | str i =>
    obtain ⟨t, rfl⟩ := rx
    cases y with
    | non => cases ry; exact PySem.EqNone.eq_str_none (fin_bl I q (by simp))
    | bl j => cases ry; exact PySem.EqMixed.eq_str_bool (fin_bl I q (by simp))
    | int j => obtain ⟨t', rfl⟩ := ry; exact PySem.EqMixed.eq_str_int (fin_bl I q (by simp))
    | str j => obtain ⟨t', rfl⟩ := ry; exact eq_str (fin_bl I q dec_str)
    | _ => exact absurd (show false = true from hs) Bool.false_ne_true
  | byt i =>
    obtain ⟨t, rfl⟩ := rx
    cases y with
    | byt j => obtain ⟨t', rfl⟩ := ry; exact PySem.W.eq_bytes (fin_bl I q dec_byt)
    | _ => exact absurd (show false = true from hs) Bool.false_ne_true
  | _ => cases y <;> exact absurd (show false = true from hs) Bool.false_ne_true
theorem op_ne : OpR X (compareOp .NotEq) rNe := by
  intro pins s σ H x y v u Q I rx ry h
  obtain ⟨hs, q⟩ := h
  cases x with
  | non =>
    cases rx
    cases y with
    | non => cases ry; exact PySem.EqNone.ne_none_none (fin_bl I q (by simp))
    | bl j => cases ry; exact PySem.EqNone.ne_none_bool (fin_bl I q (by simp))
    | int j => obtain ⟨t', rfl⟩ := ry; exact PySem.EqNone.ne_none_int (fin_bl I q (by simp))
    | str j => obtain ⟨t', rfl⟩ := ry; exact PySem.EqNone.ne_none_str (fin_bl I q (by simp))
    | _ => exact absurd (show false = true from hs) Bool.false_ne_true
  | bl i =>
    cases rx
    cases y with
    | non => cases ry; exact PySem.EqNone.ne_bool_none (fin_bl I q (by simp))
    | bl j => cases ry; exact ne_bool (fin_bl I q (congrArg not dec_bl))
    | str j => obtain ⟨t', rfl⟩ := ry; exact PySem.EqMixed.ne_bool_str (fin_bl I q (by simp))
    | _ => exact absurd (show false = true from hs) Bool.false_ne_true
  | int i =>
    obtain ⟨t, rfl⟩ := rx
    cases y with
    | non => cases ry; exact PySem.EqNone.ne_int_none (fin_bl I q (by simp))
    | int j => obtain ⟨t', rfl⟩ := ry; exact ne_int (fin_bl I q (congrArg not dec_int))
    | str j => obtain ⟨t', rfl⟩ := ry; exact PySem.EqMixed.ne_int_str (fin_bl I q (by simp))
    | _ => exact absurd (show false = true from hs) Bool.false_ne_true
  | str i =>
    obtain ⟨t, rfl⟩ := rx
    cases y with
    | non => cases ry; exact PySem.EqNone.ne_str_none (fin_bl I q (by simp))
    | bl j => cases ry; exact PySem.EqMixed.ne_str_bool (fin_bl I q (by simp))
    | int j => obtain ⟨t', rfl⟩ := ry; exact PySem.EqMixed.ne_str_int (fin_bl I q (by simp))
    | str j => obtain ⟨t', rfl⟩ := ry; exact ne_str (fin_bl I q (congrArg not dec_str))
    | _ => exact absurd (show false = true from hs) Bool.false_ne_true
  | byt i =>
    obtain ⟨t, rfl⟩ := rx
    cases y with
    | byt j => obtain ⟨t', rfl⟩ := ry; exact PySem.W.ne_bytes (fin_bl I q (congrArg not dec_byt))
    | _ => exact absurd (show false = true from hs) Bool.false_ne_true
  | _ => cases y <;> exact absurd (show false = true from hs) Bool.false_ne_true

theorem op_lt : OpR X (compareOp .Lt) (rI0 fun i j => .bl (decide (i < j))) := opB0 fun _ _ _ _ _ _ _ q => lt_int q
theorem op_le : OpR X (compareOp .LtE) (rI0 fun i j => .bl (decide (i ≤ j))) := opB0 fun _ _ _ _ _ _ _ q => le_int q
theorem op_gt : OpR X (compareOp .Gt) (rI0 fun i j => .bl (decide (j < i))) := opB0 fun _ _ _ _ _ _ _ q => gt_int q
theorem nomark (b : Expr) {op : CmpOp} (h : op ≠ .In := by decide) (h2 : op ≠ .NotIn := by decide) : behindInMarks op b = false := by
  have e1 : (op == CmpOp.In) = false := by cases op <;> first | rfl | exact absurd rfl h
  have e2 : (op == CmpOp.NotIn) = false := by cases op <;> first | rfl | exact absurd rfl h2
  cases b <;> simp [behindInMarks, e1, e2]
/-- a comparison as a value; hm: nomark b, or (for in, not in) by with_unfolding_all rfl -/
theorem pe_cmpR {op : CmpOp} {r : R2} (ho : OpR X (compareOp op) r) (ha : PE X a ta) (hb : PE X b tb) (hm : behindInMarks op b = false) : PE X (.Compare a [op] [b] pos) (tOp r ta tb) := by
  intro pins s σ H Q I h
  exact wpAny_Compare1 (binT ha hb I h fun v u s2 x y H2 I2 rx ry q => ho pins s2 σ H2 x y v u Q I2 rx ry q) hm
/-- a reading of a value as a test -/
def tTest (t : TE) : TT := fun σ H Q => t σ H fun x H' => ∃ k, x = .bl k ∧ Q k H'
theorem pt_cmpR {op : CmpOp} {r : R2} (ho : OpR X (compareOp op) r) (ha : PE X a ta) (hb : PE X b tb) (hm : behindInMarks op b = false) : PT X (.Compare a [op] [b] pos) (tTest (tOp r ta tb)) := by
  intro pins s σ H Q I h
  refine wpAny_isTrue_Compare1 (thn (ha pins s σ H _ I h) fun v s1 ⟨x, H1, I1, r1, q1⟩ => thn (hb pins s1 σ H1 _ I1 q1) fun u s2 ⟨y, H2, I2, r2, q2⟩ =>
    thn (ho pins s2 σ H2 x y v u _ I2 r1 r2 q2) fun c s3 ⟨z, H3, I3, r3, k, e, q3⟩ => ?_) hm
  subst e
  cases r3
  exact wpAny_truthy_bool ⟨H3, I3, q3⟩
/-! ### truth -/
theorem line63 : (sizeLine : Nat) < 2 ^ 63 := by rw [sizeLine_eq]; decide
/-! ### strs and bytes -/
theorem op_add_str : OpR X (binaryOp .Add) (fun x y H Q => ∃ i j, x = .str i ∧ y = .str j ∧ i.length + j.length ≤ sizeLine ∧ Q (.str (i ++ j)) H) := by
  intro pins s σ H x y v u Q I rx ry h
  obtain ⟨i, j, rfl, rfl, hz, q⟩ := h
  obtain ⟨t, rfl⟩ := rx
  obtain ⟨t', rfl⟩ := ry
  exact add_str (fun t' tk => ⟨.str (i ++ j), H, I.tok _, ⟨_, rfl⟩, q⟩) hz
/-! ### scalar builtins, by CallR -/
theorem vals1 {x : V} {us : List Value} (r : Vals [x] us) : ∃ u, us = [u] ∧ RelV x u := by
  cases r with
  | cons r1 r2 => cases r2; exact ⟨_, rfl, r1⟩
theorem vals2 {x y : V} {us : List Value} (r : Vals [x, y] us) : ∃ u w', us = [u, w'] ∧ RelV x u ∧ RelV y w' := by
  cases r with
  | cons r1 r2 =>
    cases r2 with
    | cons r3 r4 => cases r4; exact ⟨_, _, rfl, r1, r3⟩
theorem call_min2 (hc : X.calm = true) : CallR X (.builtin "min") (fun xs H Q => ∃ i j, xs = [.int i, .int j] ∧ Q (.int (if j < i then j else i)) H) := by
  intro pins s σ H xs us Q I r h
  obtain ⟨i, j, rfl, q⟩ := h
  obtain ⟨u, w', rfl, ⟨t, rfl⟩, ⟨t', rfl⟩⟩ := vals2 r
  refine min_two_ints (I.ok.hd hc) fun h' tk k => ⟨_, H, I.kept k, ?_, q⟩
  by_cases hj : j < i
  · rw [if_pos hj, if_pos hj]; exact ⟨_, rfl⟩
  · rw [if_neg hj, if_neg hj]; exact ⟨_, rfl⟩
theorem call_int1 : CallR X (.type "int") (fun xs H Q => (∃ i, xs = [.int i] ∧ Q (.int i) H) ∨ ∃ k, xs = [.bl k] ∧ Q (.int (if k then 1 else 0)) H) := by
  intro pins s σ H xs us Q I r h
  rcases h with ⟨i, rfl, q⟩ | ⟨k, rfl, q⟩
  · obtain ⟨u, rfl, t, rfl⟩ := vals1 r
    exact call_int_int ⟨.int i, H, I, ⟨_, rfl⟩, q⟩
  · obtain ⟨u, rfl, r1⟩ := vals1 r
    cases r1
    exact call_int_bool ⟨.int (if k then 1 else 0), H, I.tok _, ⟨_, rfl⟩, q⟩
end
end L2

namespace L2
open PySem PySem.Spec PyProof.Rows

/-! ### an instance, its attributes a map -/
structure ObjM (h : Heap) (x dx C : Addr) (mA : Str → Option Value) : Prop where
  obj : h.get? x = some (PySem.W.instObj C dx)
  ns : h.Ns1 dx mA
  ne : dx ≠ x

theorem lookIn_ns {h : Heap} {dx : Addr} {mA : Str → Option Value} (n : h.Ns1 dx mA) : ∃ od, h.get? dx = some od ∧ ∀ name, PySem.W.lookIn name od = some (mA name) := by
  obtain ⟨o, es, ep, ho, hd, hk, _, hm⟩ := n
  refine ⟨o, ho, fun name => ?_⟩
  have e := hm name
  unfold nsFind findBy at e
  rw [← Array.find?_toList] at e
  unfold PySem.W.lookIn
  rw [hd]
  dsimp only
  split
  · rename_i y q
    rw [q] at e
    exact congrArg some e
  · rename_i q
    rw [q] at e
    have a : es.toList.any (·.refKey) = false := by
      rw [List.any_eq_false]
      intro y hy
      obtain ⟨z, t, hkey⟩ := hk y (Array.mem_toList_iff.mp hy)
      simp [DictEntry.refKey, hkey]
    have a' : ¬ es.toList.any (·.refKey) = true := by rw [a]; exact Bool.false_ne_true
    rw [if_neg a']
    exact congrArg some e

theorem ObjM.look {h : Heap} {x dx C : Addr} {mA : Str → Option Value} (I : ObjM h x dx C mA) : ∃ od, PySem.W.InstAt h x (PySem.W.instObj C dx) C (some od) ∧ ∀ name, PySem.W.lookIn name od = some (mA name) :=
  let ⟨od, ho, hl⟩ := lookIn_ns I.ns
  ⟨od, ⟨I.obj, rfl, rfl, ho⟩, hl⟩

section
variable {prog : Program} {w : World} {A : Around} {E : Value → Shared → Prop} {s : Shared} {K : PySem.W.Frag} {x dx C f : Addr} {mA : Str → Option Value} {name : Str} {v : Value}

theorem get_map {expr : Bool} {Q : Value → Shared → Prop} (X : K.In s.heap) (I : ObjM s.heap x dx C mA) (hg : PySem.W.plainGet K C name = true) (hh : PySem.W.hasDictIn K C = true)
    (ha : PySem.W.findIn K (.ref C) name = some none) (hv : mA name = some v) (hv' : PySem.W.handedIn v = true) (h : Q v { s with toks := s.toks + 1 }) :
    wpAny (model prog w) A (getAttr (.ref x) name expr) Q E s := by
  obtain ⟨od, J, hl⟩ := I.look
  exact PySem.W.get_value X J (PySem.W.plainGet_of hg).1 (PySem.W.findObj_own hh ha rfl (by rw [hl, hv])) hv' h

theorem get_meth {pl : Sem Bool} {Q : Value × List Value → Shared → Prop} (X : K.In s.heap) (I : ObjM s.heap x dx C mA) (hg : PySem.W.plainGet K C name = true)
    (hf : PySem.W.findIn K (.ref C) name = some (some (.ref f))) (ht : PySem.W.isFn K (.ref f) = true) (hv : mA name = none) (h : Q (.ref f, [.ref x]) s) :
    wpAny (model prog w) A (getMethod (.ref x) name pl) Q E s := by
  obtain ⟨od, J, hl⟩ := I.look
  exact PySem.W.method_fn X J (PySem.W.plainGet_of hg).1 (PySem.W.plainGet_of hg).2 hf (beq_iff_eq.mp ht) (by show (PySem.W.lookIn name od).map (·.isSome) = some false; rw [hl, hv]; rfl) h

theorem set_map {ns : List Str} {Q : Unit → Shared → Prop} (X : K.In s.heap) (I : ObjM s.heap x dx C mA)
    (hs : PySem.W.findIn K (.ref C) "__setattr__" = some (some (.builtin "object.__setattr__"))) (hp : PySem.W.plainOver K C = true) (ht : PySem.W.takerIn K C name = some none) (hh : PySem.W.hasDictIn K C = true)
    (hw : PySem.Within mA ns) (hsz : ns.length ≤ sizeLine)
    (h : ∀ h', ObjM h' x dx C (fun y => if y = name then some v else mA y) → Heap.SameBut dx s.heap h' → Q () { s with heap := h', toks := s.toks + 2 }) :
    wpAny (model prog w) A (setAttr (.ref x) name v) Q E s := by
  obtain ⟨od, J, hl⟩ := I.look
  refine PySem.W.set_plain X J hs (PySem.W.osa_open (s := { s with toks := s.toks + 1 }) (r := none) X J hp ht fun b => ?_)
  obtain ⟨cd, hc, hd'⟩ := PySem.W.any_some hh
  have hx : s.heap.get? x = some ⟨.ref C, some dx, .plain, #[]⟩ := I.obj
  refine wpAny_bind (wpAny_pure (wpAny_bind (wpAny_bind (wpAny_loadPart hx (wpAny_bind (PySem.W.Looks.here (s := { s with toks := s.toks + 1 }) (PySem.W.looks_clsIn X hc) ?_))))))
  rw [hd']
  refine wpAny_pure (a := some dx) (wpAny_bind (wpAny_pure (wpAny_bind ?_)))
  refine wpAny_nsSet1 (s := { s with toks := s.toks + 1 }) I.ns fun h' hn2 hs2 => ?_
  obtain ⟨oD, esD, epD, hoD, hdD, hcD⟩ := hn2.count (PySem.Within.cons name v hw)
  refine wpAny_bind (wpAny_lookBehind hoD (by rw [hdD]; exact pastItsLine_dict (Nat.le_trans hcD (by rw [List.length_cons]; omega))) ?_)
  exact wpAny_pure (h _ ⟨(hs2.2 _ (Ne.symm I.ne)).trans I.obj, hn2, I.ne⟩ hs2)

/-- C(..): the dict at the heap's end, the instance behind it; then its __init__ -/
theorem make_map {R : Result → Shared → Prop} {vs : List Value} {kw : List (Str × Value)} (X : K.In s.heap) (hm : PySem.W.makesIn K C = true)
    (hi : PySem.W.findIn K (.ref C) "__init__" = some (some (.ref f))) (hf : PySem.W.typeIn K (.ref f) = some (.type "function"))
    (h : codeAny (model prog w) (A.under (.builtin "type.__call__" ⟨.ref C :: vs, kw⟩)) (.call (.ref f) ⟨.ref (s.heap.objs.size + 1) :: vs, kw⟩) (PySem.W.InitBack (s.heap.objs.size + 1) R)
      { s with heap := (s.heap.push PySem.W.emptyDict).push (PySem.W.instObj C s.heap.objs.size) }) :
    codeAny (model prog w) A (.call (.ref C) ⟨vs, kw⟩) R s := by
  obtain ⟨hh, g, d, t, os⟩ := s
  exact PySem.W.make_core (PySem.W.makes_of X hm) (PySem.W.looks_findIn X hi) (fun self => PySem.W.bind_fn X self hf) (.inl rfl) h
end

/-! ### the attributes as a list of pairs -/
def putF (f : Str) (v : V) : List (Str × V) → List (Str × V)
  | [] => [(f, v)]
  | (g, x) :: r => if g = f then (g, v) :: r else (g, x) :: putF f v r
theorem lookup_putF (f g : Str) (v : V) : ∀ fs : List (Str × V), (putF f v fs).lookup g = if g = f then some v else fs.lookup g
  | [] => by
    show List.lookup g [(f, v)] = _
    by_cases h : g = f
    · have hb : (g == f) = true := beq_iff_eq.mpr h
      simp only [List.lookup, hb, if_pos h]
    · have hb : (g == f) = false := beq_eq_false_iff_ne.mpr h
      simp only [List.lookup, hb, if_neg h]
  | (k, x) :: r => by
    have ih := lookup_putF f g v r
    rw [show putF f v ((k, x) :: r) = (if k = f then (k, v) :: r else (k, x) :: putF f v r) from rfl]
    by_cases hk : k = f
    · rw [if_pos hk]
      by_cases h : g = k
      · have hb : (g == k) = true := beq_iff_eq.mpr h
        simp only [List.lookup, hb, if_pos (h.trans hk)]
      · have hb : (g == k) = false := beq_eq_false_iff_ne.mpr h
        simp only [List.lookup, hb, if_neg (fun e : g = f => h (e.trans hk.symm))]
    · rw [if_neg hk]
      by_cases h : g = k
      · have hb : (g == k) = true := beq_iff_eq.mpr h
        simp only [List.lookup, hb, if_neg (fun e : g = f => hk (h.symm.trans e))]
      · have hb : (g == k) = false := beq_eq_false_iff_ne.mpr h
        simp only [List.lookup, hb]
        exact ih
theorem keys_putF (f : Str) (v : V) : ∀ fs : List (Str × V), f ∈ (putF f v fs).map (·.1) ∧ ∀ g, g ∈ fs.map (·.1) → g ∈ (putF f v fs).map (·.1)
  | [] => ⟨by simp [putF], fun g h => by simp at h⟩
  | (k, x) :: r => by
    obtain ⟨i1, i2⟩ := keys_putF f v r
    rw [show putF f v ((k, x) :: r) = (if k = f then (k, v) :: r else (k, x) :: putF f v r) from rfl]
    by_cases hk : k = f
    · rw [if_pos hk]
      subst hk
      exact ⟨by simp, fun g h => by simpa using h⟩
    · rw [if_neg hk]
      refine ⟨?_, fun g h => ?_⟩
      · rw [List.map_cons]
        exact List.mem_cons_of_mem _ i1
      · rw [List.map_cons] at h ⊢
        rcases List.mem_cons.mp h with e | e
        · exact List.mem_cons.mpr (.inl e)
        · exact List.mem_cons_of_mem _ (i2 g e)
theorem length_putF (f : Str) (v : V) : ∀ fs : List (Str × V), (putF f v fs).length ≤ fs.length + 1
  | [] => by simp [putF]
  | (k, x) :: r => by
    have ih := length_putF f v r
    rw [show putF f v ((k, x) :: r) = (if k = f then (k, v) :: r else (k, x) :: putF f v r) from rfl]
    by_cases hk : k = f
    · rw [if_pos hk, List.length_cons, List.length_cons]; omega
    · rw [if_neg hk, List.length_cons, List.length_cons]; omega

theorem RelO.some_of {v : V} {o : Option Value} (r : RelO (some v) o) : ∃ u, o = some u ∧ RelV v u := by
  cases o with
  | none => exact (show False from r).elim
  | some u => exact ⟨u, rfl, r⟩
theorem RelO.none_of {o : Option Value} (r : RelO none o) : o = none := by
  cases o with
  | none => rfl
  | some u => exact (show False from r).elim
theorem handed_of {v : V} {u : Value} (r : RelV v u) : PySem.W.handedIn u = true := by
  cases v with
  | non => cases (show u = Value.none from r); rfl
  | bl b => cases (show u = Value.bool b from r); rfl
  | int i => obtain ⟨t, e⟩ := (show ∃ t, u = Value.int i t from r); cases e; rfl
  | str x => obtain ⟨t, e⟩ := (show ∃ t, u = Value.str x t from r); cases e; rfl
  | byt b => obtain ⟨t, e⟩ := (show ∃ t, u = Value.bytes b t from r); cases e; rfl
  | flt b => obtain ⟨t, e⟩ := (show ∃ t, u = Value.float b t from r); cases e; rfl
  | ref a => cases (show u = Value.ref a from r); rfl
  | ty n => cases (show u = Value.type n from r); rfl

section
variable {P : Program} {w : World} {H H' : Hp} {h h' : Heap} {a C dx : Addr} {fs fs' : List (Str × V)}
theorem ins_get (hok : HOk P w H h) (e : H a = some (.ins C dx fs)) : ∃ mA, ObjM h a dx C mA ∧ (∀ f, RelO (fs.lookup f) (mA f)) ∧ PySem.Within mA (fs.map (·.1)) ∧ fs.length ≤ 1000 ∧ H dx = some (.own a) := by
  obtain ⟨d, z, ne, ob, mA, n, r, q⟩ := (show ObjOk P w H h a (.ins C dx fs) from hok a _ e)
  exact ⟨mA, ⟨ob, n, ne⟩, r, q, z, d⟩
end

/-! ### what of the text a class must have -/
structure Cls (K : PySem.W.Frag) (C : Addr) : Prop where
  pg : PySem.W.plainGet K C Str.empty = true
  hd : PySem.W.hasDictIn K C = true
  po : PySem.W.plainOver K C = true
  sa : PySem.W.findIn K (.ref C) "__setattr__" = some (some (.builtin "object.__setattr__"))
theorem Cls.get {K : PySem.W.Frag} {C : Addr} (c : Cls K C) (f : Str) : PySem.W.plainGet K C f = true := c.pg
/-- no class of it has the name -/
def NoAttr (K : PySem.W.Frag) (C : Addr) (f : Str) : Prop := PySem.W.findIn K (.ref C) f = some none
theorem NoAttr.taker {K : PySem.W.Frag} {C : Addr} {f : Str} (n : NoAttr K C f) : PySem.W.takerIn K C f = some none := by
  unfold PySem.W.takerIn
  rw [show PySem.W.findIn K (.ref C) f = some none from n]
  rfl
/-- a constant of the class -/
structure Con (K : PySem.W.Frag) (C : Addr) (f : Str) (v : V) (u : Value) : Prop where
  at_ : PySem.W.findIn K (.ref C) f = some (some u)
  rel : RelV v u
  get : PySem.W.specialIn K u "__get__" = some none
  cp : PySem.W.copiedNames.contains f = false
/-- a method: a plain def of the class or of one above it -/
structure Meth (K : PySem.W.Frag) (C : Addr) (m : Str) (f : Addr) : Prop where
  at_ : PySem.W.findIn K (.ref C) m = some (some (.ref f))
  fn : PySem.W.isFn K (.ref f) = true
  kp : PySem.W.keepIn K (.ref f) = true

section
variable {X : Cx} {pins : List (Addr × Obj)} {σ : St} {H : Hp} {s : Shared} {a C dx : Addr} {fs : List (Str × V)} {f : Str} {v : V} {A : Around} {E : Value → Shared → Prop}

theorem getattr_ok {b : Bool} {Q : Value → Shared → Prop} (I : Inv X pins σ H s) (e : H a = some (.ins C dx fs)) (c : Cls X.K C) (n : NoAttr X.K C f) (l : fs.lookup f = some v)
    (h : ∀ u s', Inv X pins σ H s' → RelV v u → Q u s') : wpAny (model X.prog X.w) A (getAttr (.ref a) f b) Q E s := by
  obtain ⟨mA, O, r, _, _, _⟩ := ins_get I.hok e
  obtain ⟨u, hu, ru⟩ := RelO.some_of (v := v) (o := mA f) (by rw [← l]; exact r f)
  exact get_map I.kIn O (c.get f) c.hd n hu (handed_of ru) (h u _ (I.tok _) ru)

theorem getmeth_ok {m : Str} {g : Addr} {pl : Sem Bool} {Q : Value × List Value → Shared → Prop} (I : Inv X pins σ H s) (e : H a = some (.ins C dx fs)) (c : Cls X.K C) (k : Meth X.K C m g) (l : fs.lookup m = none)
    (h : Q (.ref g, [.ref a]) s) : wpAny (model X.prog X.w) A (getMethod (.ref a) m pl) Q E s := by
  obtain ⟨mA, O, r, _, _, _⟩ := ins_get I.hok e
  have hn : mA m = none := RelO.none_of (by rw [← l]; exact r m)
  exact get_meth I.kIn O (c.get m) k.at_ k.fn hn h

theorem setattr_ok {y : V} {u : Value} {Q : Unit → Shared → Prop} (I : Inv X pins σ H s) (e : H a = some (.ins C dx fs)) (c : Cls X.K C) (n : NoAttr X.K C f) (hl : fs.length < 1000) (ry : RelV y u)
    (h : ∀ s', Inv X pins σ (upd H a (.ins C dx (putF f y fs))) s' → Q () s') : wpAny (model X.prog X.w) A (setAttr (.ref a) f u) Q E s := by
  obtain ⟨mA, O, r, wi, _, ho⟩ := ins_get I.hok e
  have hz : (fs.map (·.1)).length ≤ sizeLine := by rw [List.length_map, sizeLine_eq]; omega
  refine set_map I.kIn O c.sa c.po n.taker c.hd wi hz fun h' O' sb => h _ ?_
  have hd : ∃ o, h'.get? dx = some o := let ⟨o, _, _, e', _⟩ := O'.ns; ⟨o, e'⟩
  refine I.write (x := a) (e := dx) (by rw [e]; exact True.intro) (.inr ho) (fun b q hb z => (sb.2 b hb).trans z) hd ?_
  refine ⟨by rw [upd_ne O.ne]; exact ho, ?_, O.ne, O'.obj, _, O'.ns, fun g => ?_, fun g hg => ?_⟩
  · have := length_putF f y fs; omega
  · show RelO ((putF f y fs).lookup g) (if g = f then some u else mA g)
    rw [lookup_putF]
    by_cases q : g = f
    · rw [if_pos q, if_pos q]; exact ry
    · rw [if_neg q, if_neg q]; exact r g
  · by_cases q : g = f
    · rw [q]; exact (keys_putF f y fs).1
    · refine (keys_putF f y fs).2 g (wi g fun z => hg ?_)
      show (if g = f then some u else mA g) = none
      rw [if_neg q]; exact z

/-- a new instance, tracked, without attributes -/
theorem Inv.made (I : Inv X pins σ H s) : Inv X pins σ (upd (upd H s.heap.objs.size (.own (s.heap.objs.size + 1))) (s.heap.objs.size + 1) (.ins C s.heap.objs.size []))
    { s with heap := (s.heap.push PySem.W.emptyDict).push (PySem.W.instObj C s.heap.objs.size) } := by
  have e1 : (s.heap.push PySem.W.emptyDict).get? s.heap.objs.size = some PySem.W.emptyDict := Heap.get?_push_size s.heap rfl
  have e2 : ((s.heap.push PySem.W.emptyDict).push (PySem.W.instObj C s.heap.objs.size)).get? (s.heap.objs.size + 1) = some (PySem.W.instObj C s.heap.objs.size) := by
    have := Heap.get?_push_size (s.heap.push PySem.W.emptyDict) (o := PySem.W.instObj C s.heap.objs.size) rfl
    rwa [Heap.size_push] at this
  have e3 : (s.heap.push PySem.W.emptyDict).Ns s.heap.objs.size (fun _ => none) := ⟨PySem.W.emptyDict, #[], _, e1, rfl, (fun e he => absurd he (by simp)), fun _ => rfl⟩
  have I1 := I.laid (a := s.heap.objs.size) (o := .own (s.heap.objs.size + 1)) (h' := s.heap.push PySem.W.emptyDict) (t' := s.toks) (fun b u q => Heap.get?_push_of_some _ q) (Nat.le_refl _) ⟨_, e1⟩
  refine I1.laid (a := s.heap.objs.size + 1) (o := .ins C s.heap.objs.size []) (t' := s.toks) (fun b u q => Heap.get?_push_of_some _ q) (Nat.le_of_eq (Heap.size_push _ _)) ?_
  have ne : s.heap.objs.size ≠ s.heap.objs.size + 1 := Nat.ne_of_lt (Nat.lt_succ_self _)
  refine ⟨by rw [upd_ne ne, upd_same], Nat.zero_le _, ne, e2, fun _ => none, (Heap.Ns1.of_empty e3).at fun o q => Heap.get?_push_of_some _ q, fun _ => True.intro, fun y hy => absurd rfl hy⟩

/-- e.f where nothing but the object is asked: through attributeBase (super) and the last hold -/
theorem attr_of {prog : Program} {w : World} {env : Env} {e : Expr} {f : Str} {pos : Pos} {s : Shared} {Q : Value → Shared → Prop} (hb : attributeBase e f env (eval e env) = eval e env)
    (h : wpAny (model prog w) A (eval e env) (fun o s₁ => wpAny (model prog w) A (getAttr o f true) Q E s₁) E s) : wpAny (model prog w) A (eval (.Attribute e f pos) env) Q E s :=
  Attribute_any_ h (by rw [arm_eval_Attribute, hb])
end

/-! ### readings and rules -/
/-- e.f, an attribute of the instance -/
inductive isFld (K : PySem.W.Frag) (f : Str) (x : V) (H1 : Hp) (Q : VK) : Prop
  | mk (a : Addr) (C : Addr) (dx : Addr) (fs : List (Str × V)) (v : V) (_ : x = .ref a) (_ : H1 a = some (.ins C dx fs)) (_ : Cls K C) (_ : NoAttr K C f) (_ : fs.lookup f = some v) (_ : Q v H1) : isFld K f x H1 Q
def tFld (K : PySem.W.Frag) (ta : TE) (f : Str) : TE := fun σ H Q => ta σ H fun x H1 => isFld K f x H1 Q
/-- e.f = value -/
def sFld (K : PySem.W.Frag) (ta tv : TE) (f : Str) : TS := fun D σ H => tv σ H fun y H1 => ta σ H1 fun x H2 => ∃ a C dx fs, x = .ref a ∧ H2 a = some (.ins C dx fs) ∧ Cls K C ∧ NoAttr K C f ∧ fs.length < 1000 ∧
  D.nx σ (upd H2 a (.ins C dx (putF f y fs)))
section
variable {X : Cx} {o e value : Expr} {f : Str} {pos pos' tpos : Pos} {ta tv : TE}
theorem pe_fld (he : PE X e ta) (hb : attributeBase e f X.env (eval e X.env) = eval e X.env) : PE X (.Attribute e f pos) (tFld X.K ta f) := by
  intro pins s σ H Q I h
  refine attr_of hb (thn (he pins s σ H _ I h) fun u s1 ⟨x, H1, I1, rx, a, C, dx, fs, v, ex, ea, c, n, l, q⟩ => ?_)
  subst ex
  obtain rfl : u = Value.ref a := rx
  exact getattr_ok I1 ea c n l fun u' s2 I2 ru => ⟨v, H1, I2, ru, q⟩
theorem ps_fld (ha : PE X o ta) (hv : PE X value tv) (hs : swapsWith value (some (.Attribute o f pos')) pos.line X.env = pure false) : PS X (.Assign [.Attribute o f pos'] value pos) (sFld X.K ta tv f) := by
  intro pins s σ H D I h
  refine plainObj_wpAny_Assign_Attribute (thn (hv pins s σ H _ I h) fun u s1 ⟨y, H1, I1, ry, q⟩ => thn (ha pins s1 σ H1 _ I1 q) fun ov s2 ⟨x, H2, I2, rx, a, C, dx, fs, ex, ea, c, n, l, q2⟩ => ?_) hs
  subst ex
  obtain rfl : ov = Value.ref a := rx
  exact setattr_ok I2 ea c n l ry fun s3 I3 => ⟨σ, _, I3, q2⟩
/-- what is between an instance and its method: the tree of a method call -/
theorem methcall_of {pl : Sem Bool} {m : Str} {apos : Pos} {args : List Expr} {pins : List (Addr × Obj)} {s : Shared} {σ : St} {H : Hp} {Q : Value → Shared → Prop} {te : TE} (he : PE X e te) (I : Inv X pins σ H s)
    (h : te σ H fun x H1 => ∃ a C dx fs g, x = .ref a ∧ H1 a = some (.ins C dx fs) ∧ Cls X.K C ∧ Meth X.K C m g ∧ fs.lookup m = none ∧
      ∀ s1, Inv X pins σ H1 s1 → wpAny (model X.prog X.w) X.A (callWith pos (.ref g) [.ref a] (backTo pos (starEach args X.env)) (backToKw pos (keywordEach [] X.env))) Q X.xe s1)
    (ht : eval (.Call (.Attribute e m apos) args [] pos) X.env = (do
      let ov ← eval e X.env
      standAt apos.atName
      let (f, first) ← holding [ov] (getMethod ov m pl)
      callWith pos f first (backTo pos (starEach args X.env)) (backToKw pos (keywordEach [] X.env)))) :
    wpAny (model X.prog X.w) X.A (eval (.Call (.Attribute e m apos) args [] pos) X.env) Q X.xe s := by
  refine PySem.W.methodCall_KW (pl := pl) (thn (he pins s σ H _ I h) fun u s1 ⟨x, H1, I1, rx, a, C, dx, fs, g, ex, ea, c, k, l, q⟩ => ?_) ht
  subst ex
  obtain rfl : u = Value.ref a := rx
  exact getmeth_ok I1 ea c k l (q s1 I1)
end

/-! ### isinstance -/
section
variable {X : Cx} {pins : List (Addr × Obj)} {σ : St} {H : Hp} {s : Shared} {A : Around} {E : Value → Shared → Prop} {Q : Value → Shared → Prop} {c : Value} {b : Bool}
/-- the type of a value, as the fragment's deciders take it; for an instance its class -/
inductive TyOf (K : PySem.W.Frag) (H : Hp) : V → Value → Prop where
  | non : TyOf K H .non (.type "NoneType")
  | bl (x : Bool) : TyOf K H (.bl x) (.type "bool")
  | int (i : Int) : TyOf K H (.int i) (.type "int")
  | str (x : Str) : TyOf K H (.str x) (.type "str")
  | flt (x : UInt64) : TyOf K H (.flt x) (.type "float")
  | lst {a : Addr} {xs : List V} (e : H a = some (.lst xs)) : TyOf K H (.ref a) (.type "list")
  | frz {a : Addr} {o : Obj} {xs : List V} (e : H a = some (.frz o (.lst xs))) : TyOf K H (.ref a) (.type "list")
  | tup {a : Addr} {xs : List V} (e : H a = some (.tup xs)) : TyOf K H (.ref a) (.type "tuple")
  | dK {a : Addr} {kvs : List (Key × V)} (e : H a = some (.dK kvs)) : TyOf K H (.ref a) (.type "dict")
  | dT {a : Addr} {kvs : List (List Key × V)} (e : H a = some (.dT kvs)) : TyOf K H (.ref a) (.type "dict")
  | ins {a C dx : Addr} {fs : List (Str × V)} (e : H a = some (.ins C dx fs)) (cl : Cls K C) (ha : PySem.W.findIn K (.ref C) "__class__" = some (some (.builtin "object.__class__")))
      (hn : PySem.W.specialIn K (.builtin "object.__class__") "__get__" = some (some (.builtin "getset_descriptor.__get__"))) (htk : PySem.W.takesIn K (.builtin "object.__class__") = some true)
      (hm : PySem.W.mroIn K C (.type "object") = some true) : TyOf K H (.ref a) (.ref C)
/-- isinstance(x, c) for one class c, a built-in or an own one: kitOne's answer -/
theorem isinst_ok {x : V} {u t : Value} (I : Inv X pins σ H s) (rx : RelV x u) (ty : TyOf X.K H x t) (e : PySem.W.kitOne X.K t c = some b) (h : ∀ tk, Q (.bool b) { s with toks := tk }) :
    wpAny (model X.prog X.w) A (call (.builtin "isinstance") [u, c]) Q E s := by
  cases ty with
  | non => cases (show u = Value.none from rx); exact PySem.W.kia_one PySem.W.kitx_none I.kIn True.intro e (fun z => nomatch z) h
  | bl y => cases (show u = Value.bool y from rx); exact PySem.W.kia_one PySem.W.kitx_bool I.kIn True.intro e (fun z => nomatch z) h
  | int i => obtain ⟨t, q⟩ := (show ∃ t, u = Value.int i t from rx); cases q; exact PySem.W.kia_one PySem.W.kitx_int I.kIn True.intro e (fun z => nomatch z) h
  | str y => obtain ⟨t, q⟩ := (show ∃ t, u = Value.str y t from rx); cases q; exact PySem.W.kia_one PySem.W.kitx_str I.kIn True.intro e (fun z => nomatch z) h
  | flt y => obtain ⟨t, q⟩ := (show ∃ t, u = Value.float y t from rx); cases q; exact PySem.W.kia_one PySem.W.kitx_float I.kIn True.intro e (fun z => nomatch z) h
  | @lst a xs ea =>
    cases (show u = Value.ref a from rx)
    obtain ⟨_, _, n, _, h1⟩ := (show ObjOk X.prog X.w H s.heap a (.lst xs) from I.hok a _ ea)
    exact PySem.W.kia_one PySem.W.kitx_list I.kIn ⟨_, h1, rfl⟩ e (fun z => nomatch z) h
  | @frz a ob xs ea =>
    cases (show u = Value.ref a from rx)
    obtain ⟨_, _, _, n, _, h1⟩ := (show ObjOk X.prog X.w H s.heap a (.frz ob (.lst xs)) from I.hok a _ ea)
    exact PySem.W.kia_one PySem.W.kitx_list I.kIn ⟨_, h1, rfl⟩ e (fun z => nomatch z) h
  | @tup a xs ea =>
    cases (show u = Value.ref a from rx)
    obtain ⟨_, _, _, p⟩ := (show ObjOk X.prog X.w H s.heap a (.tup xs) from I.hok a _ ea)
    obtain ⟨o, h1, h2, _⟩ := p
    exact PySem.W.kia_one PySem.W.kitx_tuple I.kIn ⟨o, h1, h2⟩ e (fun z => nomatch z) h
  | @dK a kvs ea =>
    cases (show u = Value.ref a from rx)
    obtain ⟨_, _, vs, _, p⟩ := (show ObjOk X.prog X.w H s.heap a (.dK kvs) from I.hok a _ ea)
    obtain ⟨o, es, ep, h1, h2, _⟩ := p
    exact PySem.W.kia_one PySem.W.kitx_dict I.kIn ⟨o, h1, h2.1⟩ e (fun z => nomatch z) h
  | @dT a kvs ea =>
    cases (show u = Value.ref a from rx)
    obtain ⟨_, _, xs, _, o, es, ep, h1, h2, _⟩ := (show ObjOk X.prog X.w H s.heap a (.dT kvs) from I.hok a _ ea)
    exact PySem.W.kia_one PySem.W.kitx_dict I.kIn ⟨o, h1, h2.1⟩ e (fun z => nomatch z) h
  | @ins a C dx fs ea cl ha hn htk hm =>
    cases (show u = Value.ref a from rx)
    obtain ⟨mA, O, _⟩ := ins_get I.hok ea
    obtain ⟨od, J, _⟩ := O.look
    exact PySem.W.kia_one (PySem.W.kitx_own (cl.get _) cl.hd ha hn htk hm) I.kIn J e (fun z => nomatch z) h
end
end L2

namespace L2
open PySem PySem.Spec PyProof.Rows

/-! ### room -/
structure Room (cm : Bool) (k : Nat) (A : Around) : Prop where
  hd : cm = true → A.handled = none
  dp : A.depth + 3 * k + 5 < recursionLimit
  un : A.units + 16 * k + 200 < cLine
theorem Room.mono {cm : Bool} {j k : Nat} {A : Around} (r : Room cm k A) (h : j ≤ k) : Room cm j A := ⟨r.hd, by have := r.dp; omega, by have := r.un; omega⟩
theorem Room.deeper {cm : Bool} {k : Nat} {A : Around} (r : Room cm (k + 1) A) (env : Env) : Room cm k (A.deeper env) :=
  ⟨r.hd, by have := r.dp; show A.depth + 1 + 3 * k + 5 < _; omega, by have := r.un; show A.units + 3 + 16 * k + 200 < _; omega⟩
theorem make_depth {A : Around} {C : Addr} {us : List Value} {kw : List (Str × Value)} : (A.under (.builtin "type.__call__" ⟨.ref C :: us, kw⟩)).depth = A.depth + 1 := by
  first | rfl | simp [Around.under, Code.weight, Code.isCreation, Code.isGuard, Code.isCaller, Code.frames, Code.isFrame, guardIds]
theorem make_units {A : Around} {C : Addr} {us : List Value} {kw : List (Str × Value)} : (A.under (.builtin "type.__call__" ⟨.ref C :: us, kw⟩)).units = A.units + 1 := by
  first | rfl | simp [Around.under, Code.cUnits, Code.frames, Code.isFrame]
theorem Room.make {cm : Bool} {k : Nat} {A : Around} (r : Room cm (k + 1) A) (C : Addr) (us : List Value) (kw : List (Str × Value)) : Room cm k (A.under (.builtin "type.__call__" ⟨.ref C :: us, kw⟩)) :=
  ⟨r.hd, by have := r.dp; rw [make_depth]; omega, by have := r.un; rw [make_units]; omega⟩
theorem Room.depth {cm : Bool} {k : Nat} {A : Around} (r : Room cm k A) : A.depth < recursionLimit := by have := r.dp; omega
theorem Room.units {cm : Bool} {k : Nat} {A : Around} (r : Room cm k A) : A.units + 64 < cLine := by have := r.un; omega
/-! ### argument lists and displays -/
def tNil : TA := fun _ H Q => Q [] H
def tCons (ta : TE) (tr : TA) : TA := fun σ H Q => ta σ H fun x H1 => tr σ H1 fun xs H2 => Q (x :: xs) H2
section
variable {X : Cx} {e : Expr} {es : List Expr} {te : TE} {t : TA} {pos : Pos}
theorem pa_nil : PA X [] tNil := fun _ _ _ _ H Q I h => Calls.spliced_nil ⟨[], H, I, .nil, h⟩
theorem pa_cons (ha : PE X e te) (hr : PA X es t) (hs : starEach (e :: es) X.env = (false, eval e X.env) :: starEach es X.env := by rfl) : PA X (e :: es) (tCons te t) := by
  intro pos pins s σ H Q I h
  rw [hs]
  show wpAny _ _ (spliced ((false, eval e X.env) :: backTo pos (starEach es X.env))) _ _ s
  refine Calls.spliced_cons (thn (ha pins s σ H _ I h) fun u s1 ⟨x, H1, I1, r1, q1⟩ => ?_)
  exact thn (hr pos pins s1 σ H1 _ I1 q1) fun us s2 ⟨xs, H2, I2, r2, q2⟩ => ⟨x :: xs, H2, I2, .cons r1 r2, q2⟩

/-- a tuple, a list of written items -/
def tTup (t : TA) : TE := fun σ H Q => t σ H fun xs H1 => xs.length ≤ sizeLine ∧ ∀ p, H1 p = none → Q (.ref p) (upd H1 p (.tup xs))
def tLst (t : TA) : TE := fun σ H Q => t σ H fun xs H1 => xs.length ≤ sizeLine ∧ ∀ p, H1 p = none → Q (.ref p) (upd H1 p (.lst xs))
theorem pe_tup {x1} (h : PA X es t) : PE X (.Tuple es x1 pos) (tTup t) := by
  intro pins s σ H Q I hq
  refine wpAny_Tuple_spliced (thn (h pos pins s σ H _ I hq) fun us s1 ⟨xs, H1, I1, r, z, q⟩ => ⟨by rw [← r.length]; exact z, ?_⟩)
  have hf : H1 s1.heap.objs.size = none := I1.hok.fresh (Nat.le_refl _)
  refine ⟨.ref s1.heap.objs.size, upd H1 s1.heap.objs.size (.tup xs), I1.laid (t' := s1.toks) (fun b u e => Heap.get?_push_of_some _ e) (Nat.le_refl _) ?_, rfl, q _ hf⟩
  exact ⟨z, us, r, ⟨_, Heap.get?_push_size _ rfl, rfl, _, rfl⟩⟩
theorem pe_lst (h : PA X es t) : PE X (.List es pos) (tLst t) := by
  intro pins s σ H Q I hq
  refine wpAny_List_spliced (thn (h pos pins s σ H _ I hq) fun us s1 ⟨xs, H1, I1, r, z, q⟩ => ⟨by rw [← r.length]; exact z, ?_⟩)
  have hf : H1 s1.heap.objs.size = none := I1.hok.fresh (Nat.le_refl _)
  refine ⟨.ref s1.heap.objs.size, upd H1 s1.heap.objs.size (.lst xs), I1.laid (t' := s1.toks) (fun b u e => Heap.get?_push_of_some _ e) (Nat.le_refl _) ?_, rfl, q _ hf⟩
  exact ⟨z, us, 0, r, Heap.get?_push_size _ rfl⟩
end

/-! ### what a def promises -/
/-- a def's promise: the bound arguments in the parameters' order, the heap, the wanted end, the wanted exception -/
abbrev Sp := List V → Hp → VK → XK → Prop
/-- how an exception lies behind a call (file 08 gives it): the callers' frames, abstract heap and state ahead of the call, the wish, the exception, the state -/
abbrev CXT := List Env → Hp → Shared → XK → Value → Shared → Prop

/-- the state at a call -/
structure Env0 (P : Program) (w : World) (K : PySem.W.Frag) (mg : Str → Option Value) (base : Heap) (A : Around) (outer : List Env) (s : Shared) (H : Hp) : Prop where
  frames : A.frames = some outer
  mod : Mod K mg base
  bs : ∀ b o, base.get? b = some o → s.heap.get? b = some o ∧ H b = none
  bsz : base.objs.size ≤ s.heap.objs.size
  funs : s.heap.FunFrames base outer
  frf : ∀ b ∈ frs outer, H b = none
  hok : HOk P w H s.heap
  bare : AllBare s.gens
/-- a call's end -/
def CE (outer : List Env) (P : Program) (w : World) (H : Hp) (s : Shared) (Q : VK) (u : Value) (s' : Shared) : Prop :=
  ∃ v H', s'.os = s.os ∧ AllBare s'.gens ∧ Un (frs outer) [] H H' s.heap s'.heap ∧ HOk P w H' s'.heap ∧ RelV v u ∧ Q v H'
def CR (CX : CXT) (outer : List Env) (P : Program) (w : World) (H : Hp) (s : Shared) (Q : VK) (E : XK) (r : Result) (s' : Shared) : Prop :=
  match r with
  | .ok (.ret u) => CE outer P w H s Q u s'
  | .ok _ => False
  | .error e => CX outer H s E e s'
structure FnOk (P : Program) (w : World) (K : PySem.W.Frag) (mg : Str → Option Value) (base : Heap) (CX : CXT) (cm : Bool) (k : Nat) (f : Addr) (fd : FuncData) (ps : List Str) (sp : Sp) : Prop where
  len : ∀ vs H Q E, sp vs H Q E → vs.length = ps.length
  run : ∀ (A : Around) (outer : List Env) (s : Shared) (H : Hp) (args : Args) (us : List Value) (vs : List V) (Q : VK) (E : XK), Room cm k A → Env0 P w K mg base A outer s H → BindsTo s fd args (ps.zip us) → Vals vs us → sp vs H Q E →
    codeAny (model P w) A (.call (.ref f) args) (CR CX outer P w H s Q E) s
theorem Env0.make {P : Program} {w : World} {K : PySem.W.Frag} {mg : Str → Option Value} {base : Heap} {A : Around} {outer : List Env} {s : Shared} {H : Hp} (e : Env0 P w K mg base A outer s H) (C : Addr) (us : List Value) (kw : List (Str × Value)) :
    Env0 P w K mg base (A.under (.builtin "type.__call__" ⟨.ref C :: us, kw⟩)) outer s H := ⟨by first | exact e.frames | (simpa [Around.under, Code.envs, Code.isFrame, pushEnvs] using e.frames), e.mod, e.bs, e.bsz, e.funs, e.frf, e.hok, e.bare⟩
section
variable {X : Cx} {pins : List (Addr × Obj)} {σ : St} {H : Hp} {s s' : Shared}
/-- from a body: what a callee wants -/
theorem Inv.env0 (I : Inv X pins σ H s) : Env0 X.prog X.w X.K X.mg X.base X.A X.stack s H :=
  ⟨I.ok.frames, I.ok.mod, I.bs, Nat.le_trans I.ok.bsz I.sz, I.stack, I.stkFree, I.hok, I.bare⟩
/-- behind a call -/
theorem Inv.after {Q : VK} {u : Value} (I : Inv X pins σ H s) (h : CE X.stack X.prog X.w H s Q u s') : EP X pins σ Q u s' := by
  obtain ⟨v, H', os, bare, un, hok, r, q⟩ := h
  obtain ⟨hh, g, d, t, os'⟩ := s'
  obtain rfl : os' = s.os := os
  exact ⟨v, H', I.call (h' := hh) (g' := g) (d' := d) (t' := t) (ch := []) un hok bare (fun b z => absurd z (by simp)), r, q⟩
end

/-! ### calls -/
/-- f(..): the written arguments, then the defaults dvs; E: what is wanted of an exception -/
def tCall (sp : Sp) (dvs : List V) (E : St → XK) (t : TA) : TE := fun σ H Q => t σ H fun vs H1 => sp (vs ++ dvs) H1 Q (E σ)
/-- o.m(..) of an instance of the class at C -/
def tMeth (C : Addr) (m : Str) (sp : Sp) (dvs : List V) (E : St → XK) (ta : TE) (t : TA) : TE := fun σ H Q => ta σ H fun x H1 => ∃ a dx fs, x = .ref a ∧ H1 a = some (.ins C dx fs) ∧ fs.lookup m = none ∧
  t σ H1 fun vs H2 => sp (x :: (vs ++ dvs)) H2 Q (E σ)
/-- C(..): a new instance and its dict, then __init__ -/
def tMake (C : Addr) (sp : Sp) (dvs : List V) (E : St → XK) (t : TA) : TE := fun σ H Q => t σ H fun vs H1 => ∀ x dx, H1 x = none → H1 dx = none → dx ≠ x →
  sp (.ref x :: (vs ++ dvs)) (upd (upd H1 dx (.own x)) x (.ins C dx [])) (fun v H2 => v = .non ∧ Q (.ref x) H2) (E σ)

/-- how the parameters are bound: us the positional arguments, kw the keywords' values by name, ds the defaults that fill up -/
def Binds (K : PySem.W.Frag) (fd : FuncData) (ps : List Str) (ds : List Value) : Prop :=
  ∀ (s : Shared) (us : List Value), K.In s.heap → (us ++ ds).length = ps.length → BindsTo s fd ⟨us, []⟩ (ps.zip (us ++ ds))
/-- every parameter is given -/
theorem Binds.all {K : PySem.W.Frag} {fd : FuncData} {ps : List Str} (h : ∀ us : List Value, us.length = ps.length → bindArgs fd ⟨us, []⟩ = pure (ps.zip us)) : Binds K fd ps [] := fun s us _ hl => by
  rw [List.append_nil] at hl ⊢
  exact .of_eq (h us hl)

/-- an exception of a callee reaches what this body wants of exceptions -/
def Passes (CX : CXT) (X : Cx) (E : St → XK) : Prop := ∀ (pins : List (Addr × Obj)) (σ : St) (H : Hp) (s : Shared) (e : Value) (s' : Shared), Inv X pins σ H s → CX X.stack H s (E σ) e s' → X.xe e s'

section
variable {X : Cx} {CX : CXT} {cm : Bool} {k : Nat} {f C : Addr} {fd : FuncData} {ps : List Str} {sp : Sp} {dvs : List V} {ds : List Value} {E : St → XK} {x m : Str} {p pos apos : Pos} {e o : Expr} {es : List Expr} {ta : TE} {t : TA}

/-- the callee runs -/
theorem run_fn {pins : List (Addr × Obj)} {σ : St} {H : Hp} {s : Shared} {Q : VK} {us : List Value} {vs : List V} (F : FnOk X.prog X.w X.K X.mg X.base CX cm k f fd ps sp) (hr : Room cm k X.A) (hb : Binds X.K fd ps ds) (hd : Vals dvs ds) (hx : Passes CX X E)
    (I : Inv X pins σ H s) (r : Vals vs us) (h : sp (vs ++ dvs) H Q (E σ)) : wpAny (model X.prog X.w) X.A (call (.ref f) us) (EP X pins σ Q) X.xe s := by
  have r2 : Vals (vs ++ dvs) (us ++ ds) := r.append hd
  have hl : (us ++ ds).length = ps.length := by rw [← r2.length]; exact F.len _ _ _ _ h
  refine wpAny_call (codeAny_mono (F.run X.A X.stack s H ⟨us, []⟩ (us ++ ds) (vs ++ dvs) Q (E σ) hr I.env0 (hb s us I.kIn hl) r2 h) fun r s' hq => ?_)
  cases r with
  | error e => exact hx pins σ H s e s' I hq
  | ok fl =>
    cases fl with
    | ret u => exact I.after hq
    | next => exact False.elim hq
    | brk => exact False.elim hq
    | cont => exact False.elim hq

theorem pe_call (F : FnOk X.prog X.w X.K X.mg X.base CX cm k f fd ps sp) (hr : Room cm k X.A) (hg : Gl X x) (hm : X.mg x = some (.ref f)) (hk : PySem.W.keepIn X.K (.ref f) = true) (hb : Binds X.K fd ps ds) (hd : Vals dvs ds) (hx : Passes CX X E)
    (ha : PA X (e :: es) t) (hdb : (x == ("__debug__" : Str)) = false := by decide) (he : starEach (e :: es) X.env = (false, eval e X.env) :: starEach es X.env := by rfl) (hpl : (backTo pos (starEach es X.env)).any (·.1) = false := by rfl) :
    PE X (.Call (.Name x p) (e :: es) [] pos) (tCall sp dvs E t) := by
  intro pins s σ H Q I h
  refine wpAny_Call_Name_kw (ld_glob I hg hm ?_ hdb)
  refine PySem.W.callWith_K (h₀ := X.base) I.ok.mod.kin hk (thn (ha pos pins s σ H _ I h) fun us s1 ⟨vs, H1, I1, r, q⟩ => ⟨I1.kIn, ?_⟩) he hpl
  exact run_fn F hr hb hd hx I1 r q
/-- o.m(e, ..) -/
theorem pe_meth {pl : Sem Bool} (he : PE X o ta) (c : Cls X.K C) (hm : Meth X.K C m f) (F : FnOk X.prog X.w X.K X.mg X.base CX cm k f fd ps sp) (hr : Room cm k X.A) (hb : Binds X.K fd ps ds) (hd : Vals dvs ds) (hx : Passes CX X E) (ha : PA X (e :: es) t)
    (hst : starEach (e :: es) X.env = (false, eval e X.env) :: starEach es X.env := by rfl) (hpl : (backTo pos (starEach es X.env)).any (·.1) = false := by rfl)
    (ht : eval (.Call (.Attribute o m apos) (e :: es) [] pos) X.env = (do
      let ov ← eval o X.env
      standAt apos.atName
      let (f, first) ← holding [ov] (getMethod ov m pl)
      callWith pos f first (backTo pos (starEach (e :: es) X.env)) (backToKw pos (keywordEach [] X.env))) := by rfl) :
    PE X (.Call (.Attribute o m apos) (e :: es) [] pos) (tMeth C m sp dvs E ta t) := by
  intro pins s σ H Q I h
  refine PySem.W.methodCall_KW (pl := pl) (thn (he pins s σ H _ I h) fun u s1 ⟨x, H1, I1, rx, a, dx, fs, ex, ea, l, q⟩ => ?_) ht
  subst ex
  obtain rfl : u = Value.ref a := rx
  refine getmeth_ok I1 ea c hm l ?_
  refine PySem.W.callWith_K (first := [.ref a]) (h₀ := X.base) I.ok.mod.kin hm.kp (thn (ha pos pins s1 σ H1 _ I1 q) fun us s2 ⟨vs, H2, I2, r, q2⟩ => ⟨I2.kIn, ?_⟩) hst hpl
  exact run_fn (us := .ref a :: us) (vs := .ref a :: vs) F hr hb hd hx I2 (.cons rfl r) q2
/-- what a class must have to be made -/
structure Mk (K : PySem.W.Frag) (C f : Addr) : Prop where
  makes : PySem.W.makesIn K C = true
  init : PySem.W.findIn K (.ref C) "__init__" = some (some (.ref f))
  fn : PySem.W.isFn K (.ref f) = true
  kp : PySem.W.keepIn K (.ref C) = true

theorem run_make {pins : List (Addr × Obj)} {σ : St} {H : Hp} {s : Shared} {Q : VK} {us : List Value} {vs : List V} (M : Mk X.K C f) (F : FnOk X.prog X.w X.K X.mg X.base CX cm k f fd ps sp) (hr : Room cm (k + 1) X.A) (hb : Binds X.K fd ps ds) (hd : Vals dvs ds)
    (hx : Passes CX X E) (I : Inv X pins σ H s) (r : Vals vs us)
    (h : ∀ x dx, H x = none → H dx = none → dx ≠ x → sp (.ref x :: (vs ++ dvs)) (upd (upd H dx (.own x)) x (.ins C dx [])) (fun v H2 => v = .non ∧ Q (.ref x) H2) (E σ)) :
    wpAny (model X.prog X.w) X.A (call (.ref C) us) (EP X pins σ Q) X.xe s := by
  have hq := h (s.heap.objs.size + 1) s.heap.objs.size (I.hok.fresh (Nat.le_succ _)) (I.hok.fresh (Nat.le_refl _)) (Nat.ne_of_lt (Nat.lt_succ_self _))
  have I2 := Inv.made (C := C) I
  have r2 : Vals (V.ref (s.heap.objs.size + 1) :: (vs ++ dvs)) (Value.ref (s.heap.objs.size + 1) :: (us ++ ds)) := .cons rfl (r.append hd)
  have hl : (Value.ref (s.heap.objs.size + 1) :: us ++ ds).length = ps.length := by
    have e := r2.length
    rw [F.len _ _ _ _ hq] at e
    exact e.symm
  refine wpAny_call (make_map (f := f) I.kIn M.makes M.init (beq_iff_eq.mp M.fn) (codeAny_mono (F.run _ X.stack _ _ ⟨Value.ref (s.heap.objs.size + 1) :: us, []⟩ (Value.ref (s.heap.objs.size + 1) :: (us ++ ds)) _ _ (E σ) (hr.make C us [])
    (I2.env0.make C us []) (hb _ (Value.ref (s.heap.objs.size + 1) :: us) I2.kIn hl) r2 hq) fun r s' hq' => ?_))
  cases r with
  | error e => exact hx pins σ _ _ e s' I2 hq'
  | ok fl =>
    cases fl with
    | ret u =>
      obtain ⟨v, H', I3, rv, ev, q3⟩ := I2.after hq'
      subst ev
      exact ⟨rv, ⟨V.ref (s.heap.objs.size + 1), H', I3, rfl, q3⟩⟩
    | next => exact False.elim hq'
    | brk => exact False.elim hq'
    | cont => exact False.elim hq'
theorem pe_make (M : Mk X.K C f) (F : FnOk X.prog X.w X.K X.mg X.base CX cm k f fd ps sp) (hr : Room cm (k + 1) X.A) (hg : Gl X x) (hm : X.mg x = some (.ref C)) (hb : Binds X.K fd ps ds) (hd : Vals dvs ds) (hx : Passes CX X E)
    (ha : PA X (e :: es) t) (hdb : (x == ("__debug__" : Str)) = false := by decide) (he : starEach (e :: es) X.env = (false, eval e X.env) :: starEach es X.env := by rfl) (hpl : (backTo pos (starEach es X.env)).any (·.1) = false := by rfl) :
    PE X (.Call (.Name x p) (e :: es) [] pos) (tMake C sp dvs E t) := by
  intro pins s σ H Q I h
  refine wpAny_Call_Name_kw (ld_glob I hg hm ?_ hdb)
  refine PySem.W.callWith_K (h₀ := X.base) I.ok.mod.kin M.kp (thn (ha pos pins s σ H _ I h) fun us s1 ⟨vs, H1, I1, r, q⟩ => ⟨I1.kIn, ?_⟩) he hpl
  exact run_make M F hr hb hd hx I1 r q
end

/-! ### keywords -/
section
variable {X : Cx} {CX : CXT} {cm : Bool} {k : Nat} {f C : Addr} {fd : FuncData} {ps ks : List Str} {sp : Sp} {E : St → XK} {x m : Str} {p pos apos kpos : Pos} {e o : Expr} {es : List Expr} {kws : List Keyword} {te ta : TE} {t tk : TA} {nm : Option Str}
variable {g : List Value → List Value → List Value} {gV : List V → List V → List V}
end

/-! ### a def's body keeps its promise -/
/-- names: the parameters first -/
structure FnScope (N P : List Str) (sc : Scope) : Prop where
  kind : sc.kind = .function
  co : sc.isCoroutine = false
  gen : sc.isGenerator = false
  nd : N.Nodup
  pre : N.take P.length = P
  par : ∀ x ∈ P, sc.names.lookup x = some .local ∨ sc.names.lookup x = some .cell
  nofree : ∀ y ∈ sc.names, y.2 ≠ .free

theorem bindL_out {kindOf : Str → Option NameKind} {x : Str} : ∀ {binds : List (Str × Value)} {m : Str → Option Value}, (∀ v, (x, v) ∉ binds) → bindL kindOf binds m x = m x
  | [], _, _ => rfl
  | (n, v) :: r, m, h => by
    unfold bindL
    rw [bindL_out fun w hw => h w (List.mem_cons_of_mem _ hw)]
    split
    · have : x ≠ n := by rintro rfl; exact h v List.mem_cons_self
      simp [this]
    · rfl
theorem bindC_out {kindOf : Str → Option NameKind} {x : Str} : ∀ {binds : List (Str × Value)} {m : Str → Option Value}, (∀ v, (x, v) ∉ binds) → bindC kindOf binds m x = m x
  | [], _, _ => rfl
  | (n, v) :: r, m, h => by
    unfold bindC
    rw [bindC_out fun w hw => h w (List.mem_cons_of_mem _ hw)]
    split
    · rfl
    · have : x ≠ n := by rintro rfl; exact h v List.mem_cons_self
      simp [this]
theorem bindL_get {kindOf : Str → Option NameKind} {x : Str} {v : Value} : ∀ {P : List Str} {vs : List Value} {i : Nat} {m : Str → Option Value}, P.Nodup → P[i]? = some x → vs[i]? = some v → kindOf x = some .local →
    bindL kindOf (P.zip vs) m x = some v
  | [], _, _, _, _, h, _, _ => by simp at h
  | _ :: _, [], _, _, _, _, h, _ => by simp at h
  | p :: P, w :: vs, 0, m, nd, h1, h2, hk => by
    simp at h1 h2; subst h1; subst h2
    show bindL kindOf ((p, w) :: P.zip vs) m p = _
    unfold bindL
    rw [bindL_out fun v hv => (List.nodup_cons.mp nd).1 (List.of_mem_zip hv).1, if_pos hk]
    simp
  | p :: P, w :: vs, i + 1, m, nd, h1, h2, hk => by
    show bindL kindOf ((p, w) :: P.zip vs) m x = _
    unfold bindL
    exact bindL_get (i := i) (List.nodup_cons.mp nd).2 (by simpa using h1) (by simpa using h2) hk
theorem bindC_get {kindOf : Str → Option NameKind} {x : Str} {v : Value} : ∀ {P : List Str} {vs : List Value} {i : Nat} {m : Str → Option Value}, P.Nodup → P[i]? = some x → vs[i]? = some v → kindOf x ≠ some .local →
    bindC kindOf (P.zip vs) m x = some v
  | [], _, _, _, _, h, _, _ => by simp at h
  | _ :: _, [], _, _, _, _, h, _ => by simp at h
  | p :: P, w :: vs, 0, m, nd, h1, h2, hk => by
    simp at h1 h2; subst h1; subst h2
    show bindC kindOf ((p, w) :: P.zip vs) m p = _
    unfold bindC
    rw [bindC_out fun v hv => (List.nodup_cons.mp nd).1 (List.of_mem_zip hv).1, if_neg hk]
    simp
  | p :: P, w :: vs, i + 1, m, nd, h1, h2, hk => by
    show bindC kindOf ((p, w) :: P.zip vs) m x = _
    unfold bindC
    exact bindC_get (i := i) (List.nodup_cons.mp nd).2 (by simpa using h1) (by simpa using h2) hk

/-- the names' values at the entry -/
def start (N : List Str) (vs : List V) : St := vs.map some ++ List.replicate (N.length - vs.length) none

/-- the context of a def's body, at its entry; an exception leaves the frame, then lies as CX says -/
def cxOf (CX : CXT) (cm : Bool) (P : Program) (w : World) (K : PySem.W.Frag) (mg : Str → Option Value) (base : Heap) (N : List Str) (qual : Str) (scope : Scope) (f : Addr) (cd : Value) (A : Around) (outer : List Env) (s : Shared) (H : Hp) (E : XK) : Cx where
  prog := P
  w := w
  K := K
  mg := mg
  base := base
  A := A.deeper (envOfC qual scope s.heap.objs.size f cd)
  N := N
  s₀ := s
  H₀ := H
  env := envOfC qual scope s.heap.objs.size f cd
  outer := outer
  stack := envOfC qual scope s.heap.objs.size f cd :: outer
  ex := []
  calm := cm
  fn := fun _ => true
  pn := []
  xe := fun e s' => wpAny (model P w) (A.deeper (envOfC qual scope s.heap.objs.size f cd)) (leaving (envOfC qual scope s.heap.objs.size f cd) e) (fun _ s'' => CX outer H s E e s'') (fun e' s'' => CX outer H s E e' s'') s'

theorem cell_has {sc : Scope} {n : Nat} {x : Str} (h : sc.names.lookup x = some .cell) : ∃ c, (cellsFrom n sc.names []).lookup x = some c := by
  have q := PySem.W.cellsFrom_some sc.names n [] (.inl h)
  exact Option.isSome_iff_exists.mp q

theorem inv_start {CX : CXT} {cm : Bool} {P : Program} {w : World} {K : PySem.W.Frag} {mg : Str → Option Value} {base : Heap} {N ps : List Str} {qual : Str} {scope : Scope} {f : Addr} {cd : Value} {A : Around} {outer : List Env} {s s1 : Shared} {H : Hp} {E : XK} {us : List Value} {vs : List V}
    (S : FnScope N ps scope) (hd : cm = true → A.handled = none) (e0 : Env0 P w K mg base A outer s H) (hl : vs.length = ps.length) (r : Vals vs us)
    (x : InCallC s s.heap.objs.size (bindL (envOfC qual scope s.heap.objs.size f cd).kindOf (ps.zip us) fun _ => none) (cellsFrom (s.heap.objs.size + 1) scope.names []) (bindC (envOfC qual scope s.heap.objs.size f cd).kindOf (ps.zip us) fun _ => none) s1) :
    Inv (cxOf CX cm P w K mg base N qual scope f cd A outer s H E) [] (start N vs) H s1 := by
  have hpl : ps.length ≤ N.length := by have := congrArg List.length S.pre; rw [List.length_take] at this; omega
  obtain ⟨h1, tk, rfl, hk⟩ := x.done
  have noA : ∀ b : Addr, b ∉ (cxOf CX cm P w K mg base N qual scope f cd A outer s H E).ex := fun b z => absurd (show b ∈ ([] : List Addr) from z) (by simp)
  refine ⟨⟨e0.mod, S.kind, rfl, rfl, Nat.le_refl _, fun y z c h1 h2 => ?_, fun y hy => ?_, fun y c _ h => ?_, fun z => hd z, Around.frames_deeper e0.frames, .inr ⟨rfl, rfl⟩, fun b z => absurd z (noA b), e0.bs, e0.bsz, fun b _ _ => noA b, fun b z => absurd z (noA b), e0.funs, e0.frf⟩,
    rfl, e0.bare, Un.kept hk, ⟨_, x.toInCall.ns, fun i y v h1 h2 h3 => ?_⟩, fun y c h => ⟨_, x.cell y c h⟩, e0.hok.fresh (Nat.le_refl _), fun y c h => ?_, fun p hp => absurd (show p ∈ ([] : List (Addr × Obj)) from hp) (by simp), e0.hok.kept hk, ?_⟩
  · exact name_of_addr x.apart (PySem.mem_of_lookup h1) (PySem.mem_of_lookup h2)
  · have hy : scope.names.lookup y = some .cell ∨ scope.names.lookup y = some .free := hy
    rcases hy with hy | hy
    · exact cell_has hy
    · exact absurd rfl (S.nofree _ (PySem.mem_of_lookup hy))
  · exact Nat.le_of_lt (x.above y c (PySem.mem_of_lookup h))
  · have hi : i < vs.length := by
      unfold start at h2
      by_cases hi : i < vs.length
      · exact hi
      · rw [List.getElem?_append_right (by simpa using hi)] at h2
        rw [List.getElem?_replicate] at h2
        split at h2 <;> cases h2
    have ha : vs[i]? = some v := by
      unfold start at h2
      rw [List.getElem?_append_left (by simpa using hi), List.getElem?_map] at h2
      cases e : vs[i]? with
      | none => rw [e] at h2; cases h2
      | some a => rw [e] at h2; cases h2; rfl
    obtain ⟨u, hu, rv⟩ := r.get ha
    have hp : ps[i]? = some y := by
      rw [← S.pre, List.getElem?_take_of_lt (by omega)]; exact h1
    have ndP : ps.Nodup := by rw [← S.pre]; exact S.nd.sublist (List.take_sublist _ _)
    refine ⟨u, rv, ?_⟩
    rcases S.par y (List.mem_of_getElem? hp) with k | k
    · exact .inl ⟨k, bindL_get ndP hp hu k⟩
    · obtain ⟨c, e⟩ := cell_has (n := s.heap.objs.size + 1) k
      refine .inr ⟨.inl k, c, e, ?_⟩
      have q := x.cell y c e
      rw [bindC_get ndP hp hu (by show scope.names.lookup y ≠ _; rw [k]; decide)] at q
      exact q
  · exact e0.hok.fresh (Nat.le_of_lt (x.above y c (PySem.mem_of_lookup h)))
  · unfold start
    show _ = N.length
    rw [List.length_append, List.length_map, List.length_replicate]
    omega

/-- THE RULE: a def (or a method) of the text, by its body. The body's reading t is chosen for each entry; it is run at the parameters' values -/
theorem fn_of {CX : CXT} {cm : Bool} {P : Program} {w : World} {K : PySem.W.Frag} {mg : Str → Option Value} {base : Heap} {k : Nat} {f : Addr} {name qual : Str} {params : Arguments} {body : List Stmt} {scope : Scope} {dV kV doc pm cdv ct oc : Value} {an od : Option Addr}
    {osl : Array (Option Value)} {N ps : List Str} {sp : Sp} (lk : K.lookup f = some ⟨oc, od, .func (PySem.W.fnOf name qual params body scope dV kV doc pm an cdv ct), osl⟩) (hcd : PySem.W.codeIn K cdv qual = true) (S : FnScope N ps scope)
    (len : ∀ vs H Q E, sp vs H Q E → vs.length = ps.length)
    (hbody : ∀ (A : Around) (outer : List Env) (s : Shared) (H : Hp) (vs : List V) (Q : VK) (E : XK), Room cm k (A.deeper (envOfC qual scope s.heap.objs.size f cdv)) → sp vs H Q E →
      ∃ t, PSs (cxOf CX cm P w K mg base N qual scope f cdv A outer s H E) body t ∧ t { nx := fun _ H' => Q .non H', rt := Q } (start N vs) H) :
    FnOk P w K mg base CX cm (k + 1) f (PySem.W.fnOf name qual params body scope dV kV doc pm an cdv ct) ps sp := by
  refine ⟨len, fun A outer s H args us vs Q E hr e0 hb r hsp => ?_⟩
  have hl := len _ _ _ _ hsp
  have KX : K.In s.heap := e0.mod.kin.keeps fun b o e => (e0.bs b o e).1
  have lim : s.heap.NoLimit := e0.mod.nolimit.keeps fun b o e => (e0.bs b o e).1
  have hkind : ∀ y ∈ ps.zip us, scope.names.lookup y.1 = some .local ∨ (scope.names.lookup y.1 = some .cell ∧ ((cellsFrom (s.heap.objs.size + 1) scope.names []).lookup y.1).isSome = true) := fun ⟨n, v⟩ hy => by
    rcases S.par n (List.of_mem_zip hy).1 with q | q
    · exact .inl q
    · exact .inr ⟨q, PySem.W.cellsFrom_some _ _ _ (.inl q)⟩
  refine codeAny_call_function hr.depth (KX _ _ lk) rfl S.co S.gen rfl (PySem.W.codeRec_of KX hcd) (hb _ _ _ _ ?_)
  refine wpAny_newFunctionEnv_cells S.kind hkind fun env he s1 x => ?_
  subst he
  refine ⟨lim.keeps x.toInCall.keep, codeAny_func ?_⟩
  obtain ⟨t, ht, hq⟩ := hbody A outer s H vs Q E (hr.deeper _) hsp
  have I : Inv (cxOf CX cm P w K mg base N qual scope f cdv A outer s H E) [] (start N vs) H s1 := inv_start S hr.hd e0 hl r x
  refine wpAny_mono (ht [] s1 (start N vs) H _ I hq) (fun fl s' hs => ?_) fun e s' hs => hs
  have fin : ∀ {σ' : St} {H' : Hp} {v : V} {u : Value}, Inv (cxOf CX cm P w K mg base N qual scope f cdv A outer s H E) [] σ' H' s' → RelV v u → Q v H' → CE outer P w H s Q u s' :=
    fun {σ' H' v u} J rv q => ⟨v, H', J.os, J.bare, J.base, J.hok, rv, q⟩
  cases fl with
  | ret u =>
    obtain ⟨v, σ', H', J, rv, q⟩ := hs
    exact fin J rv q
  | next =>
    obtain ⟨σ', H', J, q⟩ := hs
    exact fin (v := V.non) (u := Value.none) J rfl q
  | brk =>
    obtain ⟨_, _, _, q⟩ := hs
    exact False.elim q
  | cont =>
    obtain ⟨_, _, _, q⟩ := hs
    exact False.elim q
end L2

namespace L2
open PySem PySem.Spec PyProof.Rows
section
variable {X : Cx} {x : Str} {p pos : Pos} {e : Expr} {es : List Expr} {t : TA} {id T : String} {r : List V → Hp → VK → Prop}

def tCB (r : List V → Hp → VK → Prop) (t : TA) : TE := fun σ H Q => t σ H fun vs H1 => r vs H1 Q
/-- f(e, ..), f a built-in function -/
theorem pe_callB (hc : CallR X (.builtin id) r) (hg : Gl X x) (hm : X.mg x = none) (hv : bootBuiltins x = some (.builtin id)) (ha : PA X (e :: es) t) (hn : x ≠ "__name__" := by decide) (hdb : (x == ("__debug__" : Str)) = false := by decide)
    (he : starEach (e :: es) X.env = (false, eval e X.env) :: starEach es X.env := by rfl) (hpl : (backTo pos (starEach es X.env)).any (·.1) = false := by rfl) : PE X (.Call (.Name x p) (e :: es) [] pos) (tCB r t) := by
  intro pins s σ H Q I h
  refine wpAny_Call_Name_kw (ld_blt I hg hm hv ?_ hn hdb)
  exact PyProof.Rows.callWith_builtin1 (thn (ha pos pins s σ H _ I h) fun us s1 ⟨vs, H1, I1, r1, q1⟩ => hc pins s1 σ H1 vs us Q I1 r1 q1) he hpl
/-- T(e, ..), T a built-in type -/
theorem pe_callTy (hc : CallR X (.type T) r) (hg : Gl X x) (hm : X.mg x = none) (hv : bootBuiltins x = some (.type T)) (ha : PA X (e :: es) t) (hn : x ≠ "__name__" := by decide) (hdb : (x == ("__debug__" : Str)) = false := by decide)
    (he : starEach (e :: es) X.env = (false, eval e X.env) :: starEach es X.env := by rfl) (hpl : (backTo pos (starEach es X.env)).any (·.1) = false := by rfl) : PE X (.Call (.Name x p) (e :: es) [] pos) (tCB r t) := by
  intro pins s σ H Q I h
  refine wpAny_Call_Name_kw (ld_blt I hg hm hv ?_ hn hdb)
  exact PyProof.Rows.callWith_type1 (thn (ha pos pins s σ H _ I h) fun us s1 ⟨vs, H1, I1, r1, q1⟩ => hc pins s1 σ H1 vs us Q I1 r1 q1) he hpl
end
end L2

namespace L2
open PySem PySem.Spec PyProof.Rows

/-! ### lists of pairs as tables -/
section
variable {κ : Type} [DecidableEq κ]
def valV (kvs : List (κ × V)) (k : κ) : Option V := (kvs.find? fun kv => decide (kv.1 = k)).map (·.2)
/-- in its place, or at the end -/
def putK (kvs : List (κ × V)) (k : κ) (v : V) : List (κ × V) :=
  if (kvs.any fun kv => decide (kv.1 = k)) = true then kvs.map (fun kv => if kv.1 = k then (kv.1, v) else kv) else kvs ++ [(k, v)]
theorem valV_nil {k : κ} : valV ([] : List (κ × V)) k = none := rfl
theorem valV_pos {p : κ × V} {r : List (κ × V)} {k : κ} (e : p.1 = k) : valV (p :: r) k = some p.2 := by simp [valV, List.find?_cons, e]
theorem valV_neg {p : κ × V} {r : List (κ × V)} {k : κ} (e : ¬ p.1 = k) : valV (p :: r) k = valV r k := by simp [valV, List.find?_cons, e]
theorem valV_any (k : κ) : ∀ kvs : List (κ × V), (kvs.any fun kv => decide (kv.1 = k)) = (valV kvs k).isSome
  | [] => rfl
  | p :: r => by
    rw [List.any_cons]
    by_cases e : p.1 = k
    · simp only [valV_pos e, decide_eq_true e, Bool.true_or, Option.isSome_some]
    · rw [valV_neg e, decide_eq_false e, Bool.false_or]; exact valV_any k r
theorem valV_map (k j : κ) (y : V) : ∀ kvs : List (κ × V), valV (kvs.map fun kv => if kv.1 = k then (kv.1, y) else kv) j = (valV kvs j).map fun x => if j = k then y else x
  | [] => rfl
  | p :: r => by
    have ih := valV_map k j y r
    rw [List.map_cons]
    by_cases h : p.1 = k
    · rw [if_pos h]
      by_cases e : p.1 = j
      · rw [valV_pos (p := (p.1, y)) e, valV_pos e, Option.map_some, if_pos (e.symm.trans h)]
      · rw [valV_neg (p := (p.1, y)) e, valV_neg e, ih]
    · rw [if_neg h]
      by_cases e : p.1 = j
      · rw [valV_pos (p := p) e, valV_pos e, Option.map_some, if_neg (fun z => h (e.trans z))]
      · rw [valV_neg (p := p) e, valV_neg e, ih]
theorem valV_snoc (k j : κ) (y : V) : ∀ kvs : List (κ × V), valV kvs k = none → valV (kvs ++ [(k, y)]) j = if j = k then some y else valV kvs j
  | [], _ => by
    by_cases e : k = j
    · rw [if_pos e.symm]; exact valV_pos (p := (k, y)) e
    · rw [if_neg (fun z => e z.symm)]; exact valV_neg (p := (k, y)) e
  | p :: r, hn => by
    rw [List.cons_append]
    have hk : ¬ p.1 = k := fun z => by rw [valV_pos z] at hn; cases hn
    rw [valV_neg hk] at hn
    have ih := valV_snoc k j y r hn
    by_cases e : p.1 = j
    · rw [valV_pos e, valV_pos e, if_neg (fun z => hk (e.trans z))]
    · rw [valV_neg e, valV_neg e, ih]
theorem valV_put (kvs : List (κ × V)) (k j : κ) (y : V) : valV (putK kvs k y) j = if j = k then some y else valV kvs j := by
  unfold putK
  by_cases a : (kvs.any fun kv => decide (kv.1 = k)) = true
  · rw [if_pos a, valV_map]
    rw [valV_any] at a
    by_cases e : j = k
    · obtain ⟨x, hx⟩ := Option.isSome_iff_exists.mp a
      rw [if_pos e, e, hx, Option.map_some, if_pos rfl]
    · rw [if_neg e]
      cases valV kvs j with
      | none => rfl
      | some x => rw [Option.map_some, if_neg e]
  · rw [if_neg a]
    refine valV_snoc k j y kvs ?_
    rw [valV_any] at a
    cases q : valV kvs k with
    | none => rfl
    | some x => rw [q] at a; exact (a rfl).elim
theorem length_putK (kvs : List (κ × V)) (k : κ) (v : V) : (putK kvs k v).length ≤ kvs.length + 1 := by
  unfold putK
  split
  · rw [List.length_map]; omega
  · rw [List.length_append, List.length_cons, List.length_nil]; omega
theorem putK_new {kvs : List (κ × V)} {k : κ} (v : V) (h : valV kvs k = none) : putK kvs k v = kvs ++ [(k, v)] := by
  unfold putK
  rw [valV_any, h]
  exact if_neg (by decide)

theorem RelO.isSome_eq {o : Option V} {u : Option Value} (r : RelO o u) : o.isSome = u.isSome := by
  cases o with
  | none => cases u with
    | none => rfl
    | some _ => exact (show False from r).elim
  | some _ => cases u with
    | none => exact (show False from r).elim
    | some _ => rfl
theorem RelO.getD {o : Option V} {u : Option Value} {d : V} {d' : Value} (r : RelO o u) (rd : RelV d d') : RelV (o.getD d) (u.getD d') := by
  cases o with
  | none => cases u with
    | none => exact rd
    | some _ => exact (show False from r).elim
  | some _ => cases u with
    | none => exact (show False from r).elim
    | some _ => exact r

/-- raw tables of the same keys -/
theorem KV.val {kvs : List (κ × V)} {vs : List (κ × Value)} (r : KV kvs vs) (k : κ) : RelO (valV kvs k) (valueAt vs k) := by
  unfold KV at r
  induction r with
  | nil => exact True.intro
  | @cons p q ps qs h t ih =>
    obtain ⟨h1, h2⟩ := h
    by_cases e : p.1 = k
    · have e' : q.1 = k := h1.symm.trans e
      have b : valueAt (q :: qs) k = some q.2 := by simp [valueAt, List.find?_cons, e']
      rw [valV_pos e, b]; exact h2
    · have e' : ¬ q.1 = k := fun z => e (h1.trans z)
      have b : valueAt (q :: qs) k = valueAt qs k := by simp [valueAt, List.find?_cons, e']
      rw [valV_neg e, b]; exact ih
theorem KV.any {kvs : List (κ × V)} {vs : List (κ × Value)} (r : KV kvs vs) (k : κ) : (kvs.any fun kv => decide (kv.1 = k)) = vs.any fun kv => decide (kv.1 = k) := by
  unfold KV at r
  induction r with
  | nil => rfl
  | cons h t ih => rw [List.any_cons, List.any_cons, ih, h.1]
theorem KV.repl {kvs : List (κ × V)} {vs : List (κ × Value)} (r : KV kvs vs) (k : κ) {y : V} {u : Value} (ry : RelV y u) :
    KV (kvs.map fun kv => if kv.1 = k then (kv.1, y) else kv) (vs.map fun kv => if kv.1 = k then (kv.1, u) else kv) := by
  unfold KV at r ⊢
  induction r with
  | nil => exact .nil
  | @cons p q ps qs h t ih =>
    rw [List.map_cons, List.map_cons]
    refine .cons ?_ ih
    obtain ⟨h1, h2⟩ := h
    by_cases e : p.1 = k
    · rw [if_pos e, if_pos (h1.symm.trans e)]; exact ⟨h1, ry⟩
    · rw [if_neg e, if_neg (fun z => e (h1.trans z))]; exact ⟨h1, h2⟩
theorem KV.put {kvs : List (κ × V)} {vs : List (κ × Value)} (r : KV kvs vs) (k : κ) {y : V} {u : Value} (ry : RelV y u) : KV (putK kvs k y) (stored vs k u) := by
  unfold putK stored
  rw [r.any k]
  by_cases e : (vs.any fun kv => decide (kv.1 = k)) = true
  · rw [if_pos e, if_pos e]; exact r.repl k ry
  · rw [if_neg e, if_neg e]; exact Paired.snoc r ⟨rfl, ry⟩
theorem KV.length {kvs : List (κ × V)} {vs : List (κ × Value)} (r : KV kvs vs) : kvs.length = vs.length := Paired.length r
end


/-! ### a tracked dict, its keys ints and texts or tuples of these -/
theorem kV_is {P : Program} {w : World} {k : Key} {u : Value} (r : RelV (kV k) u) : (mixKind P w).is k u = true := by
  cases k with
  | inl i => obtain ⟨t, e⟩ := (show ∃ t, u = Value.int i t from r); subst e; exact mixKind_int P w i t
  | inr x => obtain ⟨t, e⟩ := (show ∃ t, u = Value.str x t from r); subst e; exact mixKind_str P w x t
theorem items_are {P : Program} {w : World} : ∀ {ks : List Key} {us : List Value}, Vals (ks.map kV) us → ItemsAre (mixKind P w) ks us
  | [], _, r => by rw [List.map_nil] at r; cases r; exact .nil
  | k :: ks, _, r => by
    rw [List.map_cons] at r
    cases r with
    | cons h t => exact .cons (kV_is h) (items_are t)

/-- raw entries of a dict with tuple keys -/
abbrev KT (H : Hp) : List (List Key × V) → List (List Key × Addr × Value) → Prop := Paired fun p q => p.1 = q.1 ∧ H q.2.1 = some (.tup (p.1.map kV)) ∧ RelV p.2 q.2.2
theorem KT.val {H : Hp} {kvs : List (List Key × V)} {xs : List (List Key × Addr × Value)} (r : KT H kvs xs) (k : List Key) : RelO (valV kvs k) ((atKey xs k).map (·.2)) := by
  induction r with
  | nil => exact True.intro
  | @cons p q ps qs h t ih =>
    obtain ⟨h1, _, h2⟩ := h
    by_cases e : p.1 = k
    · have e' : q.1 = k := h1.symm.trans e
      have b : atKey (q :: qs) k = some q.2 := by simp [atKey, List.find?_cons, e']
      rw [valV_pos e, b]; exact h2
    · have e' : ¬ q.1 = k := fun z => e (h1.trans z)
      have b : atKey (q :: qs) k = atKey qs k := by simp [atKey, List.find?_cons, e']
      rw [valV_neg e, b]; exact ih
theorem KT.repl {H : Hp} {kvs : List (List Key × V)} {xs : List (List Key × Addr × Value)} (r : KT H kvs xs) (k : List Key) {y : V} {u : Value} (ry : RelV y u) :
    KT H (kvs.map fun kv => if kv.1 = k then (kv.1, y) else kv) (xs.map (putAt k u)) := by
  induction r with
  | nil => exact .nil
  | @cons p q ps qs h t ih =>
    rw [List.map_cons, List.map_cons]
    refine .cons ?_ ih
    obtain ⟨h1, h2, h3⟩ := h
    unfold putAt
    by_cases e : p.1 = k
    · rw [if_pos e, if_pos (h1.symm.trans e)]; exact ⟨h1, h2, ry⟩
    · rw [if_neg e, if_neg (fun z => e (h1.trans z))]; exact ⟨h1, h2, h3⟩
theorem KT.put {H : Hp} {kvs : List (List Key × V)} {xs : List (List Key × Addr × Value)} (r : KT H kvs xs) (k : List Key) {b : Addr} {y : V} {u : Value} (hb : H b = some (.tup (k.map kV))) (ry : RelV y u) :
    KT H (putK kvs k y) (storedH xs k b u) := by
  have e : (kvs.any fun kv => decide (kv.1 = k)) = (atKey xs k).isSome := by
    rw [valV_any, (r.val k).isSome_eq, Option.isSome_map]
  unfold putK storedH
  rw [e]
  by_cases q : (atKey xs k).isSome = true
  · rw [if_pos q, if_pos q]; exact r.repl k ry
  · rw [if_neg q, if_neg q]; exact Paired.snoc r ⟨rfl, hb, ry⟩
theorem KT.keeps {H H' : Hp} {kvs : List (List Key × V)} {xs : List (List Key × Addr × Value)} (r : KT H kvs xs) (ht : ∀ b ys, H b = some (.tup ys) → H' b = some (.tup ys)) : KT H' kvs xs :=
  Paired.mapP r fun _ _ z => ⟨z.1, ht _ _ z.2.1, z.2.2⟩

section
variable {P : Program} {w : World} {H : Hp} {h : Heap} {a : Addr}
theorem rd_of {u : HO} (ok : HOk P w H h) (e : Rd H a u) : ObjOk P w H h a u := e.ok ok
theorem dk_rd {kvs : List (Key × V)} (ok : HOk P w H h) (e : Rd H a (.dK kvs)) : kvs.length ≤ sizeLine ∧ (a == sysModules) = false ∧ ∃ vs, KV kvs vs ∧ h.DictOf (mixKind P w) a vs :=
  show ObjOk P w H h a (.dK kvs) from rd_of ok e
theorem dk_of {kvs : List (Key × V)} (ok : HOk P w H h) (e : H a = some (.dK kvs)) : kvs.length ≤ sizeLine ∧ (a == sysModules) = false ∧ ∃ vs, KV kvs vs ∧ h.DictOf (mixKind P w) a vs := dk_rd ok (.inl e)
/-- a tracked tuple of ints and texts is a key -/
theorem key_of {ks : List Key} (ok : HOk P w H h) (e : H a = some (.tup (ks.map kV))) : (tupleKind (mixKind P w)).is h ks a := by
  obtain ⟨_, its, r, o, h1, h2, n, h3⟩ := (show ObjOk P w H h a (.tup (ks.map kV)) from ok a _ e)
  exact ⟨o, its.toArray, n, h1, h2, h3, by simpa using items_are r⟩
theorem dt_rd {kvs : List (List Key × V)} (ok : HOk P w H h) (e : Rd H a (.dT kvs)) : kvs.length ≤ sizeLine ∧ (a == sysModules) = false ∧
    ∃ xs, KT H kvs xs ∧ h.DictOfH (tupleKind (mixKind P w)) a xs := by
  obtain ⟨z, y, xs, r, o, es, ep, h1, h2, h3, h4, h5⟩ := (show ObjOk P w H h a (.dT kvs) from rd_of ok e)
  refine ⟨z, y, xs, r, o, es, ep, h1, h2, h3, h4, fun x hx => ?_, h5⟩
  have all : ∀ {l : List (List Key × V)} {m : List (List Key × Addr × Value)}, KT H l m → ∀ x ∈ m, (tupleKind (mixKind P w)).is h x.1 x.2.1 := by
    intro l m q
    induction q with
    | nil => intro x hx; exact nomatch hx
    | @cons p q ps qs hq t ih =>
      intro x hx
      rcases List.mem_cons.mp hx with e | hx
      · subst e
        exact key_of ok (by rw [← hq.1]; exact hq.2.1)
      · exact ih x hx
  exact all r x hx
theorem dt_of {kvs : List (List Key × V)} (ok : HOk P w H h) (e : H a = some (.dT kvs)) : kvs.length ≤ sizeLine ∧ (a == sysModules) = false ∧
    ∃ xs, KT H kvs xs ∧ h.DictOfH (tupleKind (mixKind P w)) a xs := dt_rd ok (.inl e)
end

/-- what the dict at a holds at the key y -/
def DGet (H : Hp) (a : Addr) (y : V) (r : Option V) : Prop :=
  (∃ kvs k, Rd H a (.dK kvs) ∧ y = kV k ∧ r = valV kvs k) ∨ ∃ kvs k b, Rd H a (.dT kvs) ∧ y = .ref b ∧ H b = some (.tup (k.map kV)) ∧ r = valV kvs k
/-- the heap behind a[y] = v -/
def DPut (H : Hp) (a : Addr) (y v : V) (H' : Hp) : Prop :=
  (∃ kvs k, H a = some (.dK kvs) ∧ y = kV k ∧ kvs.length < sizeLine ∧ H' = upd H a (.dK (putK kvs k v))) ∨
  ∃ kvs k b, H a = some (.dT kvs) ∧ y = .ref b ∧ H b = some (.tup (k.map kV)) ∧ kvs.length < sizeLine ∧ H' = upd H a (.dT (putK kvs k v))
theorem DGet.t {H : Hp} {a b : Addr} {kvs : List (List Key × V)} {k : List Key} (e : H a = some (.dT kvs)) (eb : H b = some (.tup (k.map kV))) : DGet H a (.ref b) (valV kvs k) := .inr ⟨kvs, k, b, .inl e, rfl, eb, rfl⟩
theorem DPut.t {H : Hp} {a b : Addr} {kvs : List (List Key × V)} {k : List Key} {v : V} (e : H a = some (.dT kvs)) (eb : H b = some (.tup (k.map kV))) (hl : kvs.length < sizeLine) :
    DPut H a (.ref b) v (upd H a (.dT (putK kvs k v))) := .inr ⟨kvs, k, b, e, rfl, eb, hl, rfl⟩


section
variable {X : Cx} {pins : List (Addr × Obj)} {σ : St} {H : Hp} {s : Shared} {a : Addr} {y v : V} {u r : Value} {o : Option V} {A : Around} {E : Value → Shared → Prop}

theorem Inv.big (I : Inv X pins σ H s) : sysModules < s.heap.objs.size := by
  have h : mainGlobals < s.heap.objs.size := (I.mod.glob.keeps I.bk).lt
  exact Nat.lt_trans (by decide) h

/-- y in d -/
theorem d_in {Q : Value → Shared → Prop} (hu : A.units + 1 < cLine) (I : Inv X pins σ H s) (g : DGet H a y o) (ry : RelV y u) (h : ∀ s', Inv X pins σ H s' → Q (.bool o.isSome) s') :
    wpAny (model X.prog X.w) A (compareOp .In u (.ref a)) Q E s := by
  rcases g with ⟨kvs, k, e, ey, l⟩ | ⟨kvs, k, b, e, ey, eb, l⟩
  · subst ey
    obtain ⟨z, hd, vs, rel, dd⟩ := dk_rd I.hok e
    refine wpAny_in_of (kV_is ry) hd dd.mapOf ?_
    rw [← (rel.val k).isSome_eq, ← l]
    exact h _ (I.tok _)
  · subst ey
    cases (show u = Value.ref b from ry)
    obtain ⟨z, hd, xs, rel, dd⟩ := dt_rd I.hok e
    refine wpAny_in_heap (tupleKind_room_in1 hu) (key_of I.hok eb) hd dd ?_
    have q := (rel.val k).isSome_eq
    rw [Option.isSome_map] at q
    rw [← q, ← l]
    exact h _ (I.tok _)
/-- a dict's object is replaced -/
theorem d_write {h' : Heap} {t' : Nat} {ob : HO} (I : Inv X pins σ H s) (mu : Mut (H a)) (hs : Heap.SameBut a s.heap h') (he : ∃ q, h'.get? a = some q) (new : ObjOk X.prog X.w (upd H a ob) h' a ob) :
    Inv X pins σ (upd H a ob) { s with heap := h', toks := t' } :=
  I.write (x := a) (e := a) mu (.inl rfl) (fun b q hb z => (hs.2 b hb).trans z) he new
theorem dk_new {P : Program} {w : World} {H' : Hp} {h' : Heap} {kvs : List (Key × V)} {vs : List (Key × Value)} (z : kvs.length ≤ sizeLine) (hd : (a == sysModules) = false) (rel : KV kvs vs) (dd : h'.DictOf (mixKind P w) a vs) :
    ObjOk P w H' h' a (.dK kvs) := ⟨z, hd, vs, rel, dd⟩
/-- d[y] = v -/
theorem d_setItem {H' : Hp} {Q : Unit → Shared → Prop} (hu : A.units + 1 < cLine) (I : Inv X pins σ H s) (g : DPut H a y v H') (ry : RelV y u) (rv : RelV v r) (h : ∀ s', Inv X pins σ H' s' → Q () s') :
    wpAny (model X.prog X.w) A (setItem (.ref a) u r) Q E s := by
  rcases g with ⟨kvs, k, e, ey, l, eH⟩ | ⟨kvs, k, b, e, ey, eb, l, eH⟩
  · subst ey eH
    obtain ⟨z, hd, vs, rel, dd⟩ := dk_of I.hok e
    have hz : vs.length ≤ sizeLine := by rw [← rel.length]; exact z
    have hl : (putK kvs k v).length ≤ sizeLine := by have := length_putK kvs k v; omega
    refine wpAny_setItem_pairs (hsz := hz) (kV_is ry) dd fun h' dd' hs => h _ ?_
    have he : ∃ q, h'.get? a = some q := let ⟨q, _, _, hq, _⟩ := dd'; ⟨q, hq⟩
    exact d_write I (by rw [e]; exact True.intro) hs he (dk_new hl hd (rel.put k rv) dd')
  · subst ey eH
    cases (show u = Value.ref b from ry)
    obtain ⟨z, hd, xs, rel, dd⟩ := dt_of I.hok e
    have hz : xs.length ≤ sizeLine := by rw [← Paired.length rel]; exact z
    have hl : (putK kvs k v).length ≤ sizeLine := by have := length_putK kvs k v; omega
    refine wpAny_setItem_heap (hsz := hz) (tupleKind_room_in1 hu) (key_of I.hok eb) dd fun h' dd' hs => h _ ?_
    obtain ⟨q, es, ep, hq, h2, h3, h4, _, h5⟩ := dd'
    refine d_write I (by rw [e]; exact True.intro) hs ⟨q, hq⟩ ⟨hl, hd, _, (rel.put k eb rv).keeps fun c ys ec => ?_, q, es, ep, hq, h2, h3, h4, h5⟩
    rw [upd_ne (ne_of ec e (fun z => nomatch z))]
    exact ec
end

section
variable {X : Cx} {pins : List (Addr × Obj)} {σ : St} {H : Hp} {s : Shared} {a : Addr} {kvs : List (Key × V)} {k : Key} {u : Value} {A : Around} {E : Value → Shared → Prop}
end


/-! ### readings and rules -/
/-- y in d, y not in d -/
def tDIn (ty td : TE) : TE := fun σ H Q => ty σ H fun y H1 => td σ H1 fun x H2 => ∃ a o, x = .ref a ∧ DGet H2 a y o ∧ Q (.bl o.isSome) H2
/-- d[y] = v -/
def sDPut (td ty tv : TE) : TS := fun D σ H => tv σ H fun v H1 => td σ H1 fun x H2 => ty σ H2 fun y H3 => ∃ a H4, x = .ref a ∧ DPut H3 a y v H4 ∧ D.nx σ H4
section
variable {X : Cx} {o i e value : Expr} {pos pos' tpos : Pos} {td ty tv : TE}
theorem pc_din (hu : X.A.units + 1 < cLine) (hi : PE X i ty) (ho : PE X o td) : PC X .In i o (tDIn ty td) := by
  intro pins s σ H Q I h
  refine thn (hi pins s σ H _ I h) fun iv s1 ⟨y, H1, I1, ry, q1⟩ => thn (ho pins s1 σ H1 _ I1 q1) fun u s2 ⟨x, H2, I2, rx, a, ov, ex, g, q2⟩ => ?_
  subst ex
  obtain rfl : u = Value.ref a := rx
  exact d_in hu I2 g ry fun s3 I3 => ⟨.bl ov.isSome, H2, I3, rfl, q2⟩
theorem ps_dput (hu : X.A.units + 1 < cLine) (ho : PE X o td) (hi : PE X i ty) (hv : PE X value tv) (hs : swapsWith value (some (.Subscript o i pos')) pos.line X.env = pure false) :
    PS X (.Assign [.Subscript o i pos'] value pos) (sDPut td ty tv) := by
  intro pins s σ H D I h
  refine wpAny_Assign_Subscript (thn (hv pins s σ H _ I h) fun r s1 ⟨v, H1, I1, rv, q1⟩ => thn (ho pins s1 σ H1 _ I1 q1) fun u s2 ⟨x, H2, I2, rx, q2⟩ => thn (hi pins s2 σ H2 _ I2 q2) fun iv s3 ⟨y, H3, I3, ry, a, H4, ex, g, q3⟩ => ?_) hs
  subst ex
  obtain rfl : u = Value.ref a := rx
  exact d_setItem hu I3 g ry rv fun s4 I4 => ⟨σ, H4, I4, q3⟩
end


/-! ### displays -/
theorem dt_empty {P : Program} {w : World} {H : Hp} (h : Heap) (hb : sysModules < h.objs.size) : ObjOk P w H (h.push { cls := .type "dict", data := .dict #[] }) h.objs.size (.dT []) :=
  ⟨Nat.zero_le _, beq_eq_false_iff_ne.mpr (Ne.symm (Nat.ne_of_lt hb)), [], .nil, _, #[], 0, Heap.get?_push_size _ rfl, ⟨rfl, rfl, rfl⟩, rfl, rfl, List.nodup_nil⟩
def tDNewT : TE := fun _ H Q => ∀ p, H p = none → Q (.ref p) (upd H p (.dT []))
section
variable {X : Cx} {pos : Pos}
theorem pe_dnewT : PE X (.Dict [] [] pos) tDNewT := fun pins s σ H Q I h =>
  wpAny_Dict_empty ⟨.ref s.heap.objs.size, _, I.laid (a := s.heap.objs.size) (o := .dT []) (t' := s.toks) (fun _ _ q => Heap.get?_push_of_some _ q) (Nat.le_refl _) (dt_empty s.heap I.big), rfl, h _ (I.hok.fresh (Nat.le_refl _))⟩
end

/-! ### methods -/
/-- a method call o.m(e) of a built-in, with one argument: what must be seen of the text -/
structure M1 (X : Cx) (o : Expr) (m : Str) (apos : Pos) (e : Expr) (cpos : Pos) : Prop where
  base : attributeBase o m X.env (eval o X.env) = eval o X.env
  few : ((backTo cpos (starEach [e] X.env)).all (fun x => !x.1) && (backToKw cpos (keywordEach [] X.env)).all (fun x => x.1.isSome)
    && decide (([e] : List Expr).length + ([] : List Keyword).length + (if ([] : List Keyword).isEmpty then 0 else 1) < 30)) = true
  line : (apos.endLine == cpos.line) = true
  trees : backTo cpos (starEach [e] X.env) = [(false, eval e X.env)]
/-- a is a dict, whatever its keys -/
def IsD (H : Hp) (a : Addr) : Prop := (∃ kvs, Rd H a (.dK kvs)) ∨ ∃ kvs, Rd H a (.dT kvs)
theorem isD_at {X : Cx} {pins : List (Addr × Obj)} {σ : St} {H : Hp} {s : Shared} {a : Addr} (I : Inv X pins σ H s) (d : IsD H a) :
    s.TypeIs (.ref a) "dict" ∧ (∀ b, Value.ref a = .ref b → ∃ ob, s.heap.get? b = some ob ∧ ob.dict = none) ∧ (a == sysModules) = false := by
  rcases d with ⟨kvs, e⟩ | ⟨kvs, e⟩
  · obtain ⟨_, hd, vs, _, dd⟩ := dk_rd I.hok e
    refine ⟨dd.typeIs, fun b q => ?_, hd⟩
    cases q
    obtain ⟨ob, _, _, h1, h2, _⟩ := dd
    exact ⟨ob, h1, h2.2.1⟩
  · obtain ⟨_, hd, xs, _, dd⟩ := dt_rd I.hok e
    refine ⟨dd.typeIs, fun b q => ?_, hd⟩
    cases q
    obtain ⟨ob, _, _, h1, h2, _⟩ := dd
    exact ⟨ob, h1, h2.2.1⟩

section
variable {X : Cx} {pins : List (Addr × Obj)} {σ : St} {H : Hp} {s : Shared} {a : Addr} {y d : V} {u r : Value} {o : Option V} {A : Around} {E : Value → Shared → Prop}
/-- d.get(y) -/
theorem d_get1 {Q : Value → Shared → Prop} (hu : A.units + 1 < cLine) (I : Inv X pins σ H s) (g : DGet H a y o) (ry : RelV y u) (h : ∀ w' s', Inv X pins σ H s' → RelV (o.getD .non) w' → Q w' s') :
    wpAny (model X.prog X.w) A (call (.builtin "dict.get") [.ref a, u]) Q E s := by
  rcases g with ⟨kvs, k, e, ey, l⟩ | ⟨kvs, k, b, e, ey, eb, l⟩
  · subst ey
    obtain ⟨z, hd, vs, rel, dd⟩ := dk_rd I.hok e
    refine call_meetsIn PySem.F.slot_dict_get dd.typeIs PySem.F.entry_dict_get (PySem.F.args_dict_get_2 _ _) (meets_dict_get (mixKind X.prog X.w) a (kV_is ry) hd) ⟨_, dd.mapOf, h _ _ (I.tok _) ?_⟩
    rw [l]
    exact (rel.val k).getD rfl
  · subst ey
    cases (show u = Value.ref b from ry)
    obtain ⟨z, hd, xs, rel, dd⟩ := dt_rd I.hok e
    refine call_meetsIn PySem.F.slot_dict_get dd.typeIs PySem.F.entry_dict_get (PySem.F.args_dict_get_2 _ _) (meetsH_dict_get (tupleKind (mixKind X.prog X.w)) a b hd) ⟨tupleKind_room_in1 hu, k, xs, key_of I.hok eb, dd, h _ _ (I.tok _) ?_⟩
    rw [l]
    exact (rel.val k).getD rfl
end

def tDGet1 (td ty : TE) : TE := fun σ H Q => td σ H fun x H1 => ∃ a, x = .ref a ∧ IsD H1 a ∧ ty σ H1 fun y H2 => ∃ o, DGet H2 a y o ∧ Q (o.getD .non) H2
section
variable {X : Cx} {o e f : Expr} {apos cpos : Pos} {td ty tx : TE}
theorem pe_dget1 (hu : X.A.units + 1 < cLine) (ho : PE X o td) (he : PE X e ty) (m : M1 X o "get" apos e cpos) : PE X (.Call (.Attribute o "get" apos) [e] [] cpos) (tDGet1 td ty) := by
  intro pins s σ H Q I h
  refine wpAny_Call_method m.base m.few m.line PySem.F.plainAttrs_dict PySem.F.slot_dict_get PySem.F.type_dict_get (thn (ho pins s σ H _ I h) fun u s1 ⟨x, H1, I1, rx, a, ex, d, q1⟩ => ?_)
  subst ex
  obtain rfl : u = Value.ref a := rx
  obtain ⟨t1, t2, _⟩ := isD_at I1 d
  refine ⟨t1, t2, ?_⟩
  rw [m.trees]
  refine Calls.callWith_builtin rfl (Calls.evalArgs_plain (Calls.spliced_cons (thn (he pins s1 σ H1 _ I1 q1) fun iv s2 ⟨y, H2, I2, ry, ov, g, q2⟩ => Calls.spliced_nil ?_)))
  exact d_get1 hu I2 g ry fun w' s3 I3 rw' => ⟨_, H2, I3, rw', q2⟩
end

/-! ### dict(d): a copy -/
section
variable {X : Cx} {pins : List (Addr × Obj)} {σ : St} {H : Hp} {s : Shared} {a : Addr} {kvs : List (Key × V)} {A : Around} {E : Value → Shared → Prop}
end


section
variable {X : Cx} {pins : List (Addr × Obj)} {σ : St} {H : Hp} {s : Shared} {a : Addr} {y : V} {u : Value} {A : Around} {E : Value → Shared → Prop}
end
end L2

namespace HT
open PySem PyProof.Rows

section
open PySem.SeqAt
open PySem.AutoSeq1 (wpAny_loadPart')
open PySem.MeetsSeq PySem.MeetsSeq2 PySem.MeetsSeq3

end

section
variable {prog : Program} {w : World} {A : Around} {E : Value → Shared → Prop} {s : Shared}

/-! ### t[a:b], not the whole -/
/-- a slice's bound as a place among n (d where it is left out) -/
def sIx (n d : Nat) : Option Int → Nat
  | none => d
  | some v => if v < 0 then (v + (n : Int)).toNat else min v.toNat n
theorem sIx_none (n d : Nat) : sIx n d none = d := rfl
theorem sIx_le (n d : Nat) (hd : d ≤ n) (o : Option Int) : sIx n d o ≤ n := by
  cases o with
  | none => exact hd
  | some v =>
    show (if v < 0 then (v + (n : Int)).toNat else min v.toNat n) ≤ n
    by_cases hv : v < 0
    · rw [if_pos hv]; omega
    · rw [if_neg hv]; exact Nat.min_le_right _ _
end
end HT

namespace L2
open PySem PySem.Spec PyProof.Rows

/-! ### the parts of a slice -/
abbrev TO := St → Hp → (Option Int → Hp → Prop) → Prop
/-- a slice's part (left out, or an int) -/
def PO (X : Cx) (e : Option Expr) (t : TO) : Prop :=
  ∀ (pins : List (Addr × Obj)) (s : Shared) (σ : St) (H : Hp) (Q : Option Int → Hp → Prop), Inv X pins σ H s → t σ H Q →
    wpAny (model X.prog X.w) X.A (evalPart e X.env) (fun u s' => ∃ o H', Inv X pins σ H' s' ∧ IsPart u o ∧ Q o H') X.xe s
def tNoPart : TO := fun _ H Q => Q none H
def tPart (t : TE) : TO := fun σ H Q => t σ H fun x H1 => ∃ i, x = .int i ∧ Q (some i) H1

section
variable {X : Cx} {e : Expr} {te : TE} {lo hi : Option Expr} {tl th : TO} {pos p2 : Pos}

theorem po_none : PO X none tNoPart := by
  intro pins s σ H Q I h
  rw [evalPart_none]
  exact wpAny_pure ⟨none, H, I, .none, h⟩
theorem po_some (h : PE X e te) : PO X (some e) (tPart te) := by
  intro pins s σ H Q I hw
  rw [evalPart_some]
  refine thn (h pins s σ H _ I hw) fun u s1 ⟨x, H1, I1, r1, q1⟩ => ?_
  obtain ⟨i, rfl, q⟩ := q1
  obtain ⟨t, rfl⟩ := r1
  exact ⟨some i, H1, I1, .int i t, q⟩

/-- what a slice of a value is, by values: the slice object stands at sl -/
def SlR (X : Cx) (r : V → Option Int → Option Int → Hp → VK → Prop) : Prop :=
  ∀ (pins : List (Addr × Obj)) (s : Shared) (σ : St) (H : Hp) (x : V) (v vl vu : Value) (lo hi : Option Int) (sl : Addr) (Q : VK), Inv X pins σ H s → RelV x v → s.heap.IsSliceOf sl vl vu .none → IsPart vl lo → IsPart vu hi → r x lo hi H Q →
    ∃ T id, typeLookup (.type T) "__getitem__" = pure (some (.builtin id)) ∧ s.TypeIs v T ∧ wpAny (model X.prog X.w) X.A (getItem v (.ref sl)) (EP X pins σ Q) X.xe s
def tSl (r : V → Option Int → Option Int → Hp → VK → Prop) (te : TE) (tl th : TO) : TE := fun σ H Q => te σ H fun x H1 => tl σ H1 fun l H2 => th σ H2 fun u H3 => r x l u H3 Q
/-- a[lo:hi], any a -/
theorem pe_slice {r : V → Option Int → Option Int → Hp → VK → Prop} (hr : SlR X r) (he : PE X e te) (hl : PO X lo tl) (hu : PO X hi th) : PE X (.Subscript e (.Slice lo hi none p2) pos) (tSl r te tl th) := by
  intro pins s σ H Q I h
  refine Subscript_ (thn (he pins s σ H _ I h) fun v s1 ⟨x, H1, I1, r1, q1⟩ => ?_)
  refine wpAny_Slice (thn (hl pins s1 σ H1 _ I1 q1) fun vl s2 ⟨l, H2, I2, pl, q2⟩ => thn (hu pins s2 σ H2 _ I2 q2) fun vu s3 ⟨u, H3, I3, pu, q3⟩ => ?_)
  rw [evalPart_none]
  refine wpAny_pure ?_
  have I4 : Inv X pins σ H3 { s3 with heap := s3.heap.push { cls := .type "slice", data := .fields #[vl, vu, .none] } } := I3.kept (t' := s3.toks) fun b ob q => Heap.get?_push_of_some _ q
  obtain ⟨T, id, hT, ht, hg⟩ := hr pins { s3 with heap := s3.heap.push { cls := .type "slice", data := .fields #[vl, vu, .none] } } σ H3 x v vl vu l u s3.heap.objs.size Q I4 r1 (Heap.IsSliceOf.new ..) pl pu q3
  show wpAny (model X.prog X.w) X.A (subscriptTail e (.Slice lo hi none p2) v (.ref s3.heap.objs.size)) (EP X pins σ Q) X.xe { s3 with heap := s3.heap.push { cls := .type "slice", data := .fields #[vl, vu, .none] } }
  exact tail_any (ops := [.ref s3.heap.objs.size, v]) ht hT hg (by with_unfolding_all rfl)

/-- the items of xs[lo:hi] -/
def cutV (xs : List V) (lo hi : Option Int) : List V := (xs.drop (HT.sIx xs.length 0 lo)).take (HT.sIx xs.length xs.length hi - HT.sIx xs.length 0 lo)
theorem cutV_length (xs : List V) (lo hi : Option Int) : (cutV xs lo hi).length ≤ xs.length := by
  unfold cutV
  rw [List.length_take, List.length_drop]
  omega
/-! ### t < u, t + u -/
end
end L2

namespace L2
open PySem PySem.Spec PyProof.Rows

/-! ### places -/
/-- the place that an index of any sign means -/
def ixN (n : Nat) (i : Int) : Option Nat := if 0 ≤ i then (if i < n then some i.toNat else none) else if -(n : Int) ≤ i then some (i + n).toNat else none
def atI {α : Type} (xs : List α) (i : Int) : Option α := (ixN xs.length i).bind fun j => xs[j]?
theorem ixN_seq {n : Nat} {i : Int} {j : Nat} (h : ixN n i = some j) : seqIndex? i n = some j ∧ j < n ∧ -(n : Int) ≤ i ∧ i < n := by
  unfold ixN at h
  by_cases h0 : 0 ≤ i
  · rw [if_pos h0] at h
    by_cases h1 : i < n
    · rw [if_pos h1] at h
      have e : i.toNat = j := Option.some.inj h
      exact ⟨by rw [seqIndex_of h0 h1, e], by omega, by omega, h1⟩
    · rw [if_neg h1] at h; cases h
  · rw [if_neg h0] at h
    by_cases h1 : -(n : Int) ≤ i
    · rw [if_pos h1] at h
      have e : (i + n).toNat = j := Option.some.inj h
      exact ⟨by rw [seqIndex_neg (by omega) h1, e], by omega, h1, by omega⟩
    · rw [if_neg h1] at h; cases h
theorem atI_get {α : Type} {xs : List α} {i : Int} {v : α} (h : atI xs i = some v) : ∃ j, seqIndex? i xs.length = some j ∧ xs[j]? = some v ∧ j < xs.length ∧ -(xs.length : Int) ≤ i ∧ i < xs.length := by
  unfold atI at h
  cases e : ixN xs.length i with
  | none => rw [e] at h; cases h
  | some j =>
    rw [e] at h
    obtain ⟨h1, h2, h3, h4⟩ := ixN_seq e
    exact ⟨j, h1, h, h2, h3, h4⟩
theorem atI_nat {α : Type} {xs : List α} {j : Nat} {v : α} (h : xs[j]? = some v) : atI xs (j : Int) = some v := by
  have hj : j < xs.length := (List.getElem?_eq_some_iff.mp h).1
  have e : ixN xs.length (j : Int) = some j := by
    unfold ixN
    rw [if_pos (by omega), if_pos (by omega)]; simp
  unfold atI; rw [e]; exact h
theorem atI_last {α : Type} (xs : List α) (v : α) : atI (xs ++ [v]) (-1) = some v := by
  have hl : (xs ++ [v]).length = xs.length + 1 := by simp
  have e : ixN (xs ++ [v]).length (-1) = some xs.length := by
    unfold ixN
    rw [hl, if_neg (by decide), if_pos (by omega)]
    congr 1
    omega
  unfold atI
  rw [e]
  show (xs ++ [v])[xs.length]? = some v
  simp

/-! ### what may be subscripted -/
/-- what stands as an index of a plain subscript -/
def PlainIx (b : Expr) : Prop := ∀ o i, subscripted b false o i = operate [o, i] (getItem o i)
/-- a subscript by values -/
def IxR (X : Cx) (r : R2) : Prop :=
  ∀ (value slice : Expr) (pins : List (Addr × Obj)) (s : Shared) (σ : St) (H : Hp) (x y : V) (v u : Value) (Q : VK), Inv X pins σ H s → RelV x v → RelV y u → r x y H Q →
    subscripted slice false v u = operate [v, u] (getItem v u) → wpAny (model X.prog X.w) X.A (subscriptTail value slice v u) (EP X pins σ Q) X.xe s
/-- a call of a builtin's method by values: the receiver, the arguments -/
def MtR (X : Cx) (id : String) (r : V → List V → Hp → VK → Prop) : Prop :=
  ∀ (pins : List (Addr × Obj)) (s : Shared) (σ : St) (H : Hp) (x : V) (xs : List V) (v : Value) (us : List Value) (Q : VK), Inv X pins σ H s → RelV x v → Vals xs us → r x xs H Q →
    wpAny (model X.prog X.w) X.A (call (.builtin id) (v :: us)) (EP X pins σ Q) X.xe s
section
variable {X : Cx} {a b : Expr} {ta tb : TE} {pos : Pos}
/-- a[b] -/
theorem pe_ix {r : R2} (hr : IxR X r) (ha : PE X a ta) (hb : PE X b tb) (hs : PlainIx b) : PE X (.Subscript a b pos) (tOp r ta tb) := by
  intro pins s σ H Q I h
  exact Subscript_ (binT ha hb I h fun v u s2 x y H2 I2 rx ry q => hr a b pins s2 σ H2 x y v u Q I2 rx ry q (hs _ _))

inductive rIxL (K : PySem.W.Frag) (x : V) (y : V) (H : Hp) (Q : VK) : Prop
  | mk (p : _) (xs : _) (i : _) (v : _) (_ : x = .ref p) (_ : y = .int i) (_ : SqL K H p xs) (_ : atI xs i = some v) (_ : Q v H) : rIxL K x y H Q
inductive rIxT (K : PySem.W.Frag) (x : V) (y : V) (H : Hp) (Q : VK) : Prop
  | mk (p : _) (xs : _) (i : _) (v : _) (_ : x = .ref p) (_ : y = .int i) (_ : SqT K H p xs) (_ : atI xs i = some v) (_ : Q v H) : rIxT K x y H Q
inductive rIxS (x : V) (y : V) (H : Hp) (Q : VK) : Prop
  | mk (z : _) (i : _) (c : _) (_ : x = .str z) (_ : y = .int i) (_ : z.length ≤ sizeLine) (_ : atI z.cps.toList i = some c) (_ : Q (.str ⟨#[c]⟩) H) : rIxS  x y H Q
theorem ix_list : IxR X (rIxL X.K) := by
  intro value slice pins s σ H x y v u Q I rx ry h hs
  obtain ⟨p, xs, i, z, rfl, rfl, hq, he, q⟩ := h
  cases rx
  obtain ⟨t, rfl⟩ := ry
  obtain ⟨its, r, pl, hz⟩ := I.list hq
  obtain ⟨j, h1, h2, h3, h4, h5⟩ := atI_get he
  obtain ⟨w, ew, rw'⟩ := r.get h2
  have hl := r.length
  have hn := line63
  have fin : EP X pins σ Q w s := ⟨z, H, I, rw', q⟩
  by_cases h0 : 0 ≤ i
  · have hj : i.toNat = j := by
      rw [seqIndex_of h0 h5] at h1
      exact Option.some.inj h1
    exact item_listR pl.isList h0 (by omega) (by rw [hj]; simpa using ew) fin hs
  · have hj : (i + (its.toArray.size : Int)).toNat = j := by
      rw [seqIndex_neg (by omega) h4] at h1
      rw [List.size_toArray, ← hl]
      exact Option.some.inj h1
    exact subscriptTail_builtinR (x := w) pl.isList.typeIs slot_list_getitem.lookup
      (wpAny_getItem_list_neg (Q := fun r s' => r = w ∧ EP X pins σ Q r s') pl.isList (by omega) (by rw [List.size_toArray] <;> omega) (by omega) (by rw [hj]; simpa using ew) ⟨rfl, fin⟩) hs
theorem ix_tup : IxR X (rIxT X.K) := by
  intro value slice pins s σ H x y v u Q I rx ry h hs
  obtain ⟨p, xs, i, z, rfl, rfl, hq, he, q⟩ := h
  cases rx
  obtain ⟨t, rfl⟩ := ry
  obtain ⟨its, r, pl, hz⟩ := I.tuple hq
  obtain ⟨j, h1, h2, h3, h4, h5⟩ := atI_get he
  obtain ⟨w, ew, rw'⟩ := r.get h2
  have hl := r.length
  have hn := line63
  have fin : EP X pins σ Q w s := ⟨z, H, I, rw', q⟩
  exact subscriptTail_builtinR (x := w) pl.typeIs slot_tuple_getitem.lookup
    (getItem_tuple (j := j) (Q := fun r s' => r = w ∧ EP X pins σ Q r s') pl (by omega) (by omega) (by rw [List.size_toArray, ← hl]; exact h1) (by simpa using ew) ⟨rfl, fin⟩) hs
theorem ix_str : IxR X rIxS := by
  intro value slice pins s σ H x y v u Q I rx ry h hs
  obtain ⟨z, i, c, rfl, rfl, hz, he, q⟩ := h
  obtain ⟨t, rfl⟩ := rx
  obtain ⟨t', rfl⟩ := ry
  obtain ⟨j, h1, h2, h3, h4, h5⟩ := atI_get he
  have hl : z.cps.toList.length = z.length := by simp [Str.length]
  rw [hl] at h1 h4 h5
  have hn := line63
  exact tail_any (typeIs_str s z t) slot_str_getitem.lookup (getItem_str (c := c) (by
    have e1 : decide (i < -(2 ^ 63 : Int)) = false := decide_eq_false (by omega)
    have e2 : decide (i ≥ 2 ^ 63) = false := decide_eq_false (by omega)
    rw [e1, e2, Bool.or_false]) (by rw [h1]; simpa using h2) ⟨.str ⟨#[c]⟩, H, I.tok _, ⟨_, rfl⟩, q⟩) hs
/-! ### xs[i] = v, any sign -/
/-- the list's object behind a store -/
theorem mapSeq_set (its : List Value) (n j : Nat) (u : Value) : Obj.mapSeq (·.setIfInBounds j u) { cls := .type "list", data := .seq its.toArray n } = { cls := .type "list", data := .seq (its.set j u).toArray n } := by
  simp [Obj.mapSeq]
theorem Inv.lst {pins : List (Addr × Obj)} {σ : St} {H : Hp} {s : Shared} {p : Addr} {xs : List V} (I : Inv X pins σ H s) (h : H p = some (.lst xs)) :
    ∃ (its : List Value) (n : Nat), Vals xs its ∧ s.heap.get? p = some { cls := .type "list", data := .seq its.toArray n } ∧ xs.length ≤ sizeLine := by
  obtain ⟨z, its, n, r, e⟩ := I.hok p _ h
  exact ⟨its, n, r, e, z⟩
/-- the list at p is written by an update of its object -/
theorem Inv.lstUpd {pins : List (Addr × Obj)} {σ : St} {H : Hp} {s : Shared} {p : Addr} {xs ys : List V} {its its' : List Value} {n n' : Nat} {f : Obj → Obj} (I : Inv X pins σ H s) (h : H p = some (.lst xs))
    (ho : s.heap.get? p = some { cls := .type "list", data := .seq its.toArray n }) (hf : f { cls := .type "list", data := .seq its.toArray n } = { cls := .type "list", data := .seq its'.toArray n' }) (r : Vals ys its') (hz : ys.length ≤ sizeLine) (t : Nat) :
    Inv X pins σ (upd H p (.lst ys)) { s with heap := s.heap.update p f, toks := t } := by
  have e : (s.heap.update p f).get? p = some { cls := .type "list", data := .seq its'.toArray n' } := by
    rw [Heap.get?_update_self f ho (by rw [hf] <;> rfl), hf]
  refine I.write (x := p) (e := p) (by rw [h]; trivial) (.inl rfl) (fun b u hb q => (Heap.get?_update_other _ _ (Ne.symm hb)).trans q) ⟨_, e⟩ ?_
  exact ⟨hz, its', n', r, e⟩
inductive rSetL (o : V) (i : V) (v : V) (H : Hp) (Q : (Hp → Prop)) : Prop
  | mk (p : _) (xs : _) (k : _) (j : _) (_ : o = .ref p) (_ : i = .int k) (_ : H p = some (.lst xs)) (_ : ixN xs.length k = some j) (_ : Q (upd H p (.lst (xs.set j v)))) : rSetL  o i v H Q
theorem set_list : PSet X rSetL := by
  intro pins s σ H o i v ov iv u Q I ro ri rv h
  obtain ⟨p, xs, k, j, rfl, rfl, hp, hj, q⟩ := h
  cases ro
  obtain ⟨t, rfl⟩ := ri
  obtain ⟨its, n, r, ho, hz⟩ := I.lst hp
  obtain ⟨h1, h2, h3, h4⟩ := ixN_seq hj
  have hl := r.length
  have hn := line63
  have I' : Inv X pins σ (upd H p (.lst (xs.set j v))) { s with heap := s.heap.update p (Obj.mapSeq (·.setIfInBounds j u)) } :=
    I.lstUpd hp ho (mapSeq_set its n j u) (r.set rv j) (by rw [List.length_set]; exact hz) s.toks
  by_cases h0 : 0 ≤ k
  · have hk : k.toNat = j := by
      rw [seqIndex_of h0 h4] at h1
      exact Option.some.inj h1
    exact PySem.W.ki_setAt ho h0 (by omega) (by rw [List.size_toArray, ← hl]; exact h4) (by rw [hk]; exact ⟨_, I', q⟩)
  · have hk : (k + (its.toArray.size : Int)).toNat = j := by
      rw [seqIndex_neg (by omega) h3] at h1
      rw [List.size_toArray, ← hl]
      exact Option.some.inj h1
    exact PySem.W.ki_setBack ho (by omega) (by rw [List.size_toArray, ← hl]; exact h3) (by omega) (by rw [hk]; exact ⟨_, I', q⟩)

/-! ### slices -/
theorem slice_bounds (lo hi : Option Int) (n : Nat) : (sliceBounds lo hi none n).1 = ((HT.sIx n 0 lo : Nat) : Int) ∧ (sliceBounds lo hi none n).2.1 = ((HT.sIx n n hi : Nat) : Int) ∧ (sliceBounds lo hi none n).2.2 = 1 := by
  refine ⟨?_, ?_, rfl⟩
  · cases lo with
    | none => simp [sliceBounds, HT.sIx]
    | some i =>
      simp only [sliceBounds, HT.sIx, Option.getD_none, show (1 : Int) > 0 by decide, if_true]
      by_cases h : i < 0
      · simp only [h, if_true] <;> omega
      · simp only [h, if_false] <;> omega
  · cases hi with
    | none => simp [sliceBounds, HT.sIx]
    | some i =>
      simp only [sliceBounds, HT.sIx, Option.getD_none, show (1 : Int) > 0 by decide, if_true]
      by_cases h : i < 0
      · simp only [h, if_true] <;> omega
      · simp only [h, if_false] <;> omega
theorem slicePick_cut (its : List Value) (lo hi : Option Int) : slicePick its.toArray lo hi none = ((its.drop (HT.sIx its.length 0 lo)).take (HT.sIx its.length its.length hi - HT.sIx its.length 0 lo)).toArray := by
  obtain ⟨h1, h2, h3⟩ := slice_bounds lo hi its.toArray.size
  unfold slicePick
  rw [h1, h2, h3]
  simp only [sliceRange_one, pick_run, List.size_toArray] <;> rfl
/-- xs[lo:hi] of a list: a new list -/
inductive rSlL (K : PySem.W.Frag) (x : V) (lo : Option Int) (hi : Option Int) (H : Hp) (Q : VK) : Prop
  | mk (a : _) (xs : _) (_ : x = .ref a) (_ : SqL K H a xs) (_ : ∀ p, H p = none → Q (.ref p) (upd H p (.lst (cutV xs lo hi)))) : rSlL K x lo hi H Q
theorem sl_list : SlR X (rSlL X.K) := by
  intro pins s σ H x v vl vu lo hi sl Q I rx hs pl pu h
  obtain ⟨a, xs, rfl, hx, q⟩ := h
  cases rx
  obtain ⟨its, r, ht, hz⟩ := I.list hx
  have hlen := r.length
  refine ⟨"list", _, slot_list_getitem.lookup, ht.isList.typeIs, ?_⟩
  refine wpAny_getItem_list_slice ht.isList hs pl pu .none (by simp) ?_ (by rw [List.size_toArray] <;> omega)
  rw [slicePick_cut, ← hlen]
  refine ⟨.ref s.heap.objs.size, _, I.laid (t' := s.toks) (o := .lst (cutV xs lo hi)) (fun b ob q => Heap.get?_push_of_some _ q) (Nat.le_refl _) ?_, rfl, q _ (I.hok.fresh (Nat.le_refl _))⟩
  exact ⟨Nat.le_trans (cutV_length xs lo hi) hz, _, 0, (r.drop (HT.sIx xs.length 0 lo)).take (HT.sIx xs.length xs.length hi - HT.sIx xs.length 0 lo), Heap.get?_push_size _ rfl⟩

/-! ### in, not in: flat items -/
def flatV : V → Bool
  | .non => true
  | .bl _ => true
  | .int _ => true
  | .str _ => true
  | _ => false
/-- == of flat values -/
def eqV : V → V → Bool
  | .non, .non => true
  | .bl a, .bl b => a == b
  | .bl a, .int b => (if a then 1 else 0) == b
  | .int a, .bl b => a == (if b then 1 else 0)
  | .int a, .int b => a == b
  | .str a, .str b => a == b
  | _, _ => false
theorem eqAt_V {A : Around} {s : Shared} {y x : V} {u v : Value} (ry : RelV y u) (rx : RelV x v) (fy : flatV y = true) (fx : flatV x = true) : SeqAt.EqAt A s u v (eqV y x) := by
  cases y with
  | non =>
    cases ry
    cases x with
    | non => cases rx; exact SeqAt.EqAt.same _
    | bl b => cases rx; exact SeqAt.EqAt.none_bool b
    | int b => obtain ⟨t, rfl⟩ := rx; exact SeqAt.EqAt.none_int b t
    | str b => obtain ⟨t, rfl⟩ := rx; exact SeqAt.EqAt.none_str b t
    | _ => exact absurd (show false = true from fx) Bool.false_ne_true
  | bl a =>
    cases ry
    cases x with
    | non => cases rx; exact SeqAt.EqAt.bool_none a
    | bl b => cases rx; exact SeqAt.EqAt.bool_bool a b
    | int b => obtain ⟨t, rfl⟩ := rx; exact SeqAt.EqAt.bool_int a b t
    | str b => obtain ⟨t, rfl⟩ := rx; exact SeqAt.EqAt.bool_str a b t
    | _ => exact absurd (show false = true from fx) Bool.false_ne_true
  | int a =>
    obtain ⟨t', rfl⟩ := ry
    cases x with
    | non => cases rx; exact SeqAt.EqAt.int_none a t'
    | bl b => cases rx; exact SeqAt.EqAt.int_bool a t' b
    | int b => obtain ⟨t, rfl⟩ := rx; exact SeqAt.EqAt.int_int a t' b t
    | str b => obtain ⟨t, rfl⟩ := rx; exact SeqAt.EqAt.int_str a t' b t
    | _ => exact absurd (show false = true from fx) Bool.false_ne_true
  | str a =>
    obtain ⟨t', rfl⟩ := ry
    cases x with
    | non => cases rx; exact SeqAt.EqAt.str_none a t'
    | bl b => cases rx; exact SeqAt.EqAt.str_bool a t' b
    | int b => obtain ⟨t, rfl⟩ := rx; exact SeqAt.EqAt.str_int a t' b t
    | str b => obtain ⟨t, rfl⟩ := rx; exact SeqAt.EqAt.str_str a t' b t
    | _ => exact absurd (show false = true from fx) Bool.false_ne_true
  | _ => exact absurd (show false = true from fy) Bool.false_ne_true
/-! ### len, list(x), tuple(x) of any list or tuple that is read -/
theorem call_len_seq : CallR X (.builtin "len") (fun xs H Q => ∃ p ys, xs = [.ref p] ∧ (SqL X.K H p ys ∨ SqT X.K H p ys) ∧ Q (.int ys.length) H) := by
  intro pins s σ H xs us Q I r h
  obtain ⟨p, ys, rfl, hq, q⟩ := h
  obtain ⟨u, rfl, rx⟩ := vals1 r
  cases rx
  have hn := line63
  rcases hq with hq | hq
  · obtain ⟨its, r', pl, hz⟩ := I.list hq
    have hlen := r'.length
    exact Calls.call_len_list pl.isList (by simp only [List.size_toArray] <;> omega) ⟨.int ys.length, H, I.tok _, ⟨s.toks + 1, by rw [List.size_toArray, hlen]⟩, q⟩
  · obtain ⟨its, r', pl, hz⟩ := I.tuple hq
    have hlen := r'.length
    exact len_tuple pl (by simp only [List.size_toArray] <;> omega) ⟨.int ys.length, H, I.tok _, ⟨s.toks + 1, by rw [List.size_toArray, hlen]⟩, q⟩
theorem call_len_str : CallR X (.builtin "len") (fun xs H Q => ∃ z, xs = [.str z] ∧ z.length ≤ sizeLine ∧ Q (.int z.length) H) := by
  intro pins s σ H xs us Q I r h
  obtain ⟨z, rfl, hz, q⟩ := h
  obtain ⟨u, rfl, t, rfl⟩ := vals1 r
  have hn := line63
  exact len_str (by omega) ⟨.int z.length, H, I.tok _, ⟨_, rfl⟩, q⟩
theorem call_list_of : CallR X (.type "list") (fun xs H Q => ∃ p ys, xs = [.ref p] ∧ (SqL X.K H p ys ∨ SqT X.K H p ys) ∧ ∀ l, H l = none → Q (.ref l) (upd H l (.lst ys))) := by
  intro pins s σ H xs us Q I r h
  obtain ⟨p, ys, rfl, hq, q⟩ := h
  obtain ⟨u, rfl, rx⟩ := vals1 r
  cases rx
  have fin : ∀ (its : List Value), Vals ys its → ys.length ≤ sizeLine → ∀ (h' : Heap) (c' : Nat), (∀ b o', s.heap.get? b = some o' → h'.get? b = some o') →
      h'.get? s.heap.objs.size = some { cls := .type "list", dict := none, data := .seq its.toArray c', slots := #[] } → EP X pins σ Q (.ref s.heap.objs.size) { s with heap := h' } := fun its r' hz h' c' kp e =>
    ⟨.ref s.heap.objs.size, _, I.laid (t' := s.toks) kp (Nat.le_refl _) (show ObjOk X.prog X.w _ h' _ (.lst ys) from ⟨hz, its, c', r', e⟩), rfl, q _ (I.hok.fresh (Nat.le_refl _))⟩
  rcases hq with hq | hq
  · obtain ⟨its, r', pl, hz⟩ := I.list hq
    have hlen := r'.length
    obtain ⟨o, ho, hc, n, hd⟩ := pl.isList
    exact call_list_seq p (.inl rfl) ho hc hd (fun h' c' kp e => fin its r' hz h' c' kp e) (by simp only [List.size_toArray] <;> omega)
  · obtain ⟨its, r', pl, hz⟩ := I.tuple hq
    have hlen := r'.length
    obtain ⟨o, ho, hc, n, hd⟩ := pl
    exact call_list_seq p (.inr rfl) ho hc hd (fun h' c' kp e => fin its r' hz h' c' kp e) (by simp only [List.size_toArray] <;> omega)
/-! ### the call of a builtin's method: o.m(..) -/
/-- the value is of that builtin type -/
def tyV (K : PySem.W.Frag) (T : String) (x : V) (H : Hp) : Prop := match x with
  | .str _ => T = "str"
  | .int _ => T = "int"
  | .ref p => (T = "list" ∧ ∃ xs, SqL K H p xs) ∨ (T = "tuple" ∧ ∃ o, K.lookup p = some o ∧ o.cls = .type "tuple" ∧ o.dict = none) ∨
      (T = "dict" ∧ ((∃ kvs, H p = some (.dK kvs)) ∨ ∃ kvs, H p = some (.dT kvs))) ∨ (T = "set" ∧ ∃ S n, H p = some (.set S n))
  | _ => False
theorem tyV_is {pins : List (Addr × Obj)} {σ : St} {H : Hp} {s : Shared} {T : String} {x : V} {v : Value} (I : Inv X pins σ H s) (r : RelV x v) (ty : tyV X.K T x H) :
    s.TypeIs v T ∧ ∀ a, v = .ref a → ∃ ob, s.heap.get? a = some ob ∧ ob.dict = none := by
  cases x with
  | str z =>
    obtain ⟨t, rfl⟩ := r
    cases (show T = "str" from ty)
    exact ⟨typeIs_str s z t, fun _ e => nomatch e⟩
  | int i =>
    obtain ⟨t, rfl⟩ := r
    cases (show T = "int" from ty)
    exact ⟨typeIs_int s i t, fun _ e => nomatch e⟩
  | ref p =>
    cases r
    rcases ty with ⟨rfl, xs, hq⟩ | ⟨rfl, o, hk, hc, hd⟩ | ⟨rfl, hk⟩ | ⟨rfl, S, n, hk⟩
    · obtain ⟨its, _, pl, _⟩ := I.list hq
      refine ⟨pl.isList.typeIs, fun a e => ?_⟩
      cases e
      obtain ⟨o, n, e, c, hd, _⟩ := pl
      exact ⟨o, e, hd⟩
    · refine ⟨⟨o, I.kIn p o hk, hc⟩, fun a e => ?_⟩
      cases e
      exact ⟨o, I.kIn _ o hk, hd⟩
    · have z : ∃ o, s.heap.get? p = some o ∧ o.ExactDict := by
        rcases hk with ⟨kvs, hk⟩ | ⟨kvs, hk⟩
        · obtain ⟨_, _, _, _, o, _, _, e, ex, _⟩ := I.hok p _ hk
          exact ⟨o, e, ex⟩
        · obtain ⟨_, _, _, _, o, _, _, e, ex, _⟩ := I.hok p _ hk
          exact ⟨o, e, ex⟩
      obtain ⟨o, e, ex⟩ := z
      refine ⟨⟨o, e, ex.1⟩, fun a e2 => ?_⟩
      cases e2
      exact ⟨o, e, ex.2.1⟩
    · obtain ⟨o, _, _, _, e, ex, _⟩ := I.hok p _ hk
      refine ⟨⟨o, e, ex.1⟩, fun a e2 => ?_⟩
      cases e2
      exact ⟨o, e, ex.2.1⟩
  | _ => exact False.elim ty
def tBM (K : PySem.W.Frag) (T : String) (r : V → List V → Hp → VK → Prop) (to : TE) (t : TA) : TE := fun σ H Q => to σ H fun x H1 => tyV K T x H1 ∧ t σ H1 fun xs H2 => r x xs H2 Q
variable {o e : Expr} {es : List Expr} {to : TE} {t : TA} {name : Str} {apos cpos : Pos} {T id : String} {r : V → List V → Hp → VK → Prop}
theorem pe_bm (pa : PlainAttrs T) (slot : Slot T name id) (hty : typeOf (.builtin id) = pure (.type "method_descriptor")) (hm : MtR X id r) (ho : PE X o to) (ha : PA X (e :: es) t)
    (hbase : attributeBase o name X.env (eval o X.env) = eval o X.env := by rfl)
    (hfew : ((backTo cpos (starEach (e :: es) X.env)).all (fun x => !x.1) && (backToKw cpos (keywordEach [] X.env)).all (fun x => x.1.isSome)
      && decide ((e :: es).length + ([] : List Keyword).length + (if ([] : List Keyword).isEmpty then 0 else 1) < 30)) = true := by rfl)
    (hline : (apos.endLine == cpos.line) = true := by rfl) (hs : starEach (e :: es) X.env = (false, eval e X.env) :: starEach es X.env := by rfl) (hplain : (backTo cpos (starEach es X.env)).any (·.1) = false := by rfl) :
    PE X (.Call (.Attribute o name apos) (e :: es) [] cpos) (tBM X.K T r to t) := by
  intro pins s σ H Q I h
  refine wpAny_Call_method_late hbase hfew hline rfl (thn (ho pins s σ H _ I h) fun v s1 ⟨x, H1, I1, r1, ty, q1⟩ => ?_)
  obtain ⟨h1, h2⟩ := tyV_is I1 r1 ty
  refine ⟨T, id, pa, slot, hty, h1, h2, ?_⟩
  have hA := ha cpos pins s1 σ H1 _ I1 q1
  rw [hs] at hA ⊢
  refine Calls.callWith_builtin (by show (false || (backTo cpos (starEach es X.env)).any (·.1)) = false; rw [hplain] <;> rfl) (Calls.evalArgs_plain ?_)
  exact thn hA fun us s2 ⟨vs, H2, I2, r2, q2⟩ => hm pins s2 σ H2 x vs v us Q I2 r1 r2 q2
/- xs.append(e), list.index on a module's tuple .. are MtR facts of 06m -/
end
end L2

namespace L2
open PySem PySem.Spec PyProof.Rows

def MtM (X : Cx) (id : String) (r : V → List V → Hp → VK → Prop) : Prop :=
  ∀ (pins : List (Addr × Obj)) (s : Shared) (σ : St) (H : Hp) (x : V) (xs : List V) (v : Value) (us : List Value) (Q : VK), Inv X pins σ H s → RelV x v → Vals xs us → r x xs H Q →
    wpAny (model X.prog X.w) X.A (call (.builtin id) (v :: us)) (EP X pins σ Q) X.xe s

/-! ### lists of values -/
theorem Vals.one : ∀ {x : V} {us : List Value}, Vals [x] us → ∃ u, us = [u] ∧ RelV x u
  | _, _, .cons r .nil => ⟨_, rfl, r⟩
theorem Vals.reverse {xs : List V} {us : List Value} (h : Vals xs us) : Vals xs.reverse us.reverse := by
  induction h with
  | nil => exact .nil
  | cons r t ih => rw [List.reverse_cons, List.reverse_cons]; exact Vals.append ih (.cons r .nil)
theorem Vals.rep {xs : List V} {us : List Value} (h : Vals xs us) : ∀ k : Nat, Vals (List.replicate k xs).flatten (List.replicate k us).flatten
  | 0 => .nil
  | k + 1 => by
    rw [List.replicate_succ, List.replicate_succ, List.flatten_cons, List.flatten_cons]
    exact Vals.append h (Vals.rep h k)
theorem foldl_rep (its : List Value) : ∀ (k : Nat) (acc : List Value),
    List.foldl (fun x1 x2 => x1 ++ x2) acc.toArray (List.replicate k its.toArray) = (acc ++ (List.replicate k its).flatten).toArray
  | 0, acc => by simp
  | k + 1, acc => by
    have e : acc.toArray ++ its.toArray = (acc ++ its).toArray := by simp
    have e2 : (acc ++ its) ++ (List.replicate k its).flatten = acc ++ (List.replicate (k + 1) its).flatten := by
      rw [List.replicate_succ, List.flatten_cons, List.append_assoc]
    rw [← e2, ← foldl_rep its k (acc ++ its), ← e, List.replicate_succ, List.foldl_cons]

section
variable {X : Cx} {pins : List (Addr × Obj)} {σ : St} {H : Hp} {s : Shared} {l b : Addr} {xs ys zs : List V}

/-! ### the two steps: a tracked list is rewritten, a new list is laid -/
theorem Inv.lset {its its' : List Value} {n : Nat} {f : Array Value → Array Value} {t' : Nat} (I : Inv X pins σ H s) (hH : H l = some (.lst xs))
    (e : s.heap.get? l = some { cls := .type "list", data := .seq its.toArray n }) (hf : f its.toArray = its'.toArray) (hv : Vals ys its') (hz : ys.length ≤ sizeLine) :
    Inv X pins σ (upd H l (.lst ys)) { s with heap := s.heap.update l (Obj.mapSeq f), toks := t' } := by
  have q := PySem.IsL.update e f
  rw [hf] at q
  refine I.write (x := l) (e := l) (by rw [hH]; exact trivial) (.inl rfl) (fun b' u hb hu => (Heap.get?_update_other s.heap (Obj.mapSeq f) (Ne.symm hb)).trans hu) ⟨_, q⟩ ?_
  exact ⟨hz, its', _, hv, q⟩
theorem Inv.lnew {its : List Value} {t' : Nat} (I : Inv X pins σ H s) (hv : Vals ys its) (hz : ys.length ≤ sizeLine) :
    Inv X pins σ (upd H s.heap.objs.size (.lst ys)) { s with heap := s.heap.push { cls := .type "list", data := .seq its.toArray }, toks := t' } :=
  I.laid (fun _ _ q => Heap.get?_push_of_some _ q) (Nat.le_refl _) ⟨hz, its, 0, hv, Heap.get?_push_size _ rfl⟩
theorem Inv.fresh (I : Inv X pins σ H s) : H s.heap.objs.size = none := I.hok.fresh (Nat.le_refl _)
theorem Inv.lstM (I : Inv X pins σ H s) (hH : H l = some (.lst xs)) : xs.length ≤ sizeLine ∧ ∃ (its : List Value) (n : Nat), Vals xs its ∧ xs.length = its.length ∧ s.heap.get? l = some { cls := .type "list", data := .seq its.toArray n } := by
  obtain ⟨z, its, n, r, e⟩ := I.hok l _ hH
  exact ⟨z, its, n, r, r.length, e⟩

theorem notLongL {n : Nat} (h : n ≤ sizeLine) : Builtin.List.listTooLong n = false := by
  unfold Builtin.List.listTooLong
  exact decide_eq_false (by omega)
end

section
variable {X : Cx}

/-! ### methods -/
inductive rAppend (x : V) (vs : List V) (H : Hp) (Q : VK) : Prop
  | mk (l : _) (xs : _) (y : _) (_ : x = .ref l) (_ : vs = [y]) (_ : H l = some (.lst xs)) (_ : xs.length < sizeLine) (_ : Q .non (upd H l (.lst (xs ++ [y])))) : rAppend  x vs H Q
theorem mt_append : MtM X "list.append" rAppend := by
  intro pins s σ H x vs v us Q I rx rv h
  obtain ⟨l, xs, y, rfl, rfl, hH, hz, q⟩ := h
  cases rx
  obtain ⟨u, rfl, ru⟩ := rv.one
  obtain ⟨z, its, n, r, hl, e⟩ := I.lstM hH
  refine call_meets F.slot_list_append ⟨_, e, rfl⟩ F.entry_list_append (F.args_list_append_2 _ _) (PySem.list_append l its.toArray n u (by rw [List.size_toArray]; omega)) ⟨e, ?_⟩
  refine ⟨.non, _, I.lset (its' := its ++ [u]) hH e (by simp) (r.append (.cons ru .nil)) ?_, rfl, q⟩
  rw [List.length_append, List.length_singleton]
  omega

def rExtend : V → List V → Hp → VK → Prop := fun x vs H Q => ∃ l b xs zs, x = .ref l ∧ vs = [.ref b] ∧ H l = some (.lst xs) ∧ H b = some (.lst zs) ∧ xs.length + zs.length ≤ sizeLine ∧ Q .non (upd H l (.lst (xs ++ zs)))
theorem mt_extend : MtM X "list.extend" rExtend := by
  intro pins s σ H x vs v us Q I rx rv h
  obtain ⟨l, b, xs, zs, rfl, rfl, hH, hB, hz, q⟩ := h
  cases rx
  obtain ⟨u, rfl, ru⟩ := rv.one
  cases ru
  obtain ⟨z, its, n, r, hl, e⟩ := I.lstM hH
  obtain ⟨z2, its2, n2, r2, hl2, e2⟩ := I.lstM hB
  have hsz : its.toArray.size + its2.toArray.size ≤ sizeLine := by rw [List.size_toArray, List.size_toArray]; omega
  have hlong : ¬ (!its.toArray.isEmpty && Builtin.List.listTooLong (its.toArray.size + its2.toArray.size)) = true := by
    rw [notLongL hsz, Bool.and_false]
    exact Bool.false_ne_true
  refine call_meets F.slot_list_extend ⟨_, e, rfl⟩ F.entry_list_extend (F.args_list_extend_2 _ _)
    (AutoSeq1.list_extend_list_list_0 l its.toArray n b its2.toArray n2 hlong (by rw [List.size_toArray]; omega) (by omega)) ⟨e, e2, ?_⟩
  refine ⟨.non, _, I.lset (its' := its ++ its2) hH e (by simp) (r.append r2) ?_, rfl, q⟩
  rw [List.length_append]
  omega

/-! ### list + list, list += list, list * int -/
inductive rCat (x : V) (y : V) (H : Hp) (Q : VK) : Prop
  | mk (l : _) (b : _) (xs : _) (zs : _) (_ : x = .ref l) (_ : y = .ref b) (_ : H l = some (.lst xs)) (_ : H b = some (.lst zs)) (_ : xs.length + zs.length ≤ sizeLine) (_ : ∀ p, H p = none → Q (.ref p) (upd H p (.lst (xs ++ zs)))) : rCat  x y H Q
theorem op_cat : OpR X (binaryOp .Add) rCat := by
  intro pins s σ H x y v u Q I rx ry h
  obtain ⟨l, b, xs, zs, rfl, rfl, hH, hB, hz, q⟩ := h
  cases rx
  cases ry
  obtain ⟨z, its, n, r, hl, e⟩ := I.lstM hH
  obtain ⟨z2, its2, n2, r2, hl2, e2⟩ := I.lstM hB
  refine PySem.P.add_list e e2 ?_ (by rw [List.size_toArray, List.size_toArray]; omega)
  have ea : its.toArray ++ its2.toArray = (its ++ its2).toArray := by simp
  rw [ea]
  exact ⟨.ref _, _, I.lnew (t' := s.toks) (r.append r2) (by rw [List.length_append]; omega), rfl, q _ I.fresh⟩
/-- a list times an int (a negative one is nothing) -/
def rRep : R2 := fun x y H Q => ∃ l k xs, x = .ref l ∧ y = .int k ∧ H l = some (.lst xs) ∧ -(2 ^ 63) ≤ k ∧ k < 2 ^ 63 ∧ xs.length * k.toNat ≤ sizeLine ∧
  ∀ p, H p = none → Q (.ref p) (upd H p (.lst (List.replicate k.toNat xs).flatten))
theorem len_rep {α : Type} (xs : List α) (k : Nat) : (List.replicate k xs).flatten.length = k * xs.length := by
  induction k with
  | zero => simp
  | succ k ih => rw [List.replicate_succ, List.flatten_cons, List.length_append, ih, Nat.succ_mul, Nat.add_comm]
theorem op_rep : OpR X (binaryOp .Mult) rRep := by
  intro pins s σ H x y v u Q I rx ry h
  obtain ⟨l, k, xs, rfl, rfl, hH, h1, h2, hz, q⟩ := h
  cases rx
  obtain ⟨t, rfl⟩ := ry
  obtain ⟨z, its, n, r, hl, e⟩ := I.lstM hH
  have hlen : its.toArray.size * k.toNat ≤ sizeLine := by rw [List.size_toArray, ← hl]; exact hz
  have hcap : ¬ its.toArray.size * k.toNat > (2 ^ 63 - 1) / 8 := by
    have : (sizeLine : Nat) ≤ (2 ^ 63 - 1) / 8 := by decide
    omega
  have hfit : ¬ (!Builtin.List.listFitsIndex k) = true := by
    rw [fitsIndex_both h1 h2]
    exact Bool.false_ne_true
  have hlong : ¬ Builtin.List.listTooLong (its.toArray.size * k.toNat) = true := by
    rw [notLongL hlen]
    exact Bool.false_ne_true
  have hnew : List.foldl (fun x1 x2 => x1 ++ x2) #[] (List.replicate (if its.toArray.isEmpty = true then 0 else k.toNat) its.toArray) = (List.replicate k.toNat its).flatten.toArray := by
    have f0 : ∀ m : Nat, List.foldl (fun x1 x2 => x1 ++ x2) #[] (List.replicate m its.toArray) = (List.replicate m its).flatten.toArray := fun m => by
      have := foldl_rep its m []
      rw [List.nil_append] at this
      exact this
    rw [f0]
    cases its with
    | nil => simp
    | cons a r' => rw [if_neg (by simp)]
  refine wpAny_binaryOp_repeat_ref (T := "list") (U := "int") (by decide) ⟨_, e, rfl⟩ (fun s' => typeIs_int s' k t) noFill_list_mul F.fills_int_mul F.slot_int_rmul repeat_list F.slot_int_index.lookup
    (call_meets F.slot_int_rmul (typeIs_int s k t) F.entry_int_rmul (F.args_int_rmul_2 _ _) (int___rmul___int_list k t l its.toArray n)
      ⟨e, rfl, ⟨_, e, rfl⟩, call_meets F.slot_list_mul ⟨_, e, rfl⟩ F.entry_list_mul (F.args_list_mul_2 _ _) (AutoListH.list___mul___list_int_3 l its.toArray n k t hfit hcap hlong) ⟨e, ?_⟩⟩)
  rw [hnew]
  exact ⟨.ref _, _, I.lnew (t' := s.toks) (r.rep k.toNat) (by rw [len_rep, Nat.mul_comm]; exact hz), rfl, q _ I.fresh⟩

/-! ### del xs[i] -/
end

/-! ### xs[a:b] = ys -/
section
variable {prog : Program} {w : World} {A : Around} {E : Value → Shared → Prop} {s : Shared}
end

section
variable {X : Cx}
end
end L2

namespace Att
open PySem PySem.W PySem.Calls PyProof.Rows

/-! ### the script -/
theorem ints_of_wellAll {P : Params} {h : Heap} : ∀ (ns : List Int) (vs : List Value), WellAll P h vs (ns.map WData.int) → IntsAre vs ns := by
  intro ns
  induction ns with
  | nil =>
    intro vs w
    rw [List.map_nil] at w
    cases w
    exact .nil
  | cons n ns ih =>
    intro vs w
    rw [List.map_cons] at w
    cases w with
    | cons a b =>
      cases a
      exact .cons _ _ (ih _ b)

theorem script_of {l : OpenLaw} {n : Nat} (hn : l.most = some n) {P : Params} {h : Heap} {args : List WData} {vals : List Value}
    (hpre : l.row.toRowW.claim.pre args = true) (hwl : WellAll P h vals args) :
    ∃ a vs ns, vals = [Value.ref a] ∧ args = [WData.list (ns.map WData.int)] ∧ h.get? a = some { cls := .type "list", data := .seq vs.toArray } ∧ IntsAre vs ns ∧ ns.length ≤ n := by
  have hsh : WShape.hasAll [] args [.list .int] = true := (pre_splitW hpre).1
  have hc : l.pre.holds [] { args := args } = true := (pre_splitW hpre).2
  obtain ⟨d, r, rfl, h1, h2⟩ := hasAllW_cons hsh
  obtain rfl := hasAllW_nil h2
  obtain ⟨xs, rfl, h3⟩ := hasW_list h1
  obtain ⟨ns, rfl⟩ := items_int h3
  have hlen : ns.length ≤ n := by
    unfold OpenLaw.pre at hc
    have h4 : (WTm.not (.lt (.lit (.int (n : Int))) (.len (.arg 0)))).holds [] { args := [.list (ns.map .int)] } = true := by
      have h4 := (holds_andW hc).1
      rw [hn] at h4
      exact h4
    have h5 := condW_of h4 (w_not (w_lt w_lit (w_len_list (w_arg rfl))))
    rw [List.length_map] at h5
    refine Nat.le_of_not_lt fun q => ?_
    have q' : (n : Int) < ((ns.length : Nat) : Int) := by omega
    first
      | (rw [decide_eq_true q'] at h5; exact absurd h5 (by decide))
      | (simp at h5; omega)
  cases hwl with
  | cons w1 w2 =>
    cases w2
    cases w1 with
    | list ho hall => exact ⟨_, _, ns, rfl, rfl, ho, ints_of_wellAll ns _ hall, hlen⟩

theorem post_true (l : OpenLaw) (args : List WData) : l.row.toRowW.claim.post args (.bool true) args = true :=
  postW_of (r := l.row.toRowW) (X := (true == true))
    (show WShape.has [] (.bool true) .bool = true by first | rfl | decide | simp [WShape.has, WShape.arms, WShape.armsAll])
    (show (WTm.eq .res (.lit (.bool true))).value [] { args := args, res := some (.bool true), after := args } = some (.bool (true == true)) from w_eq_bool (w_res rfl) w_lit) rfl

/-! ### the attachment: holds_open's last premise (the goal 'hc' behind k_head) from a wpAny of the law's body -/
/-- the same from a codeAny of the CALL (for a layer whose function contracts speak of calls) -/
theorem attach_call {l : OpenLaw} {n : Nat} {q : Program} {loose : List Str} {XP : (Str → Option Value) → Heap → Prop} {YP : World → Heap → Prop} {d : DefRec}
    (hn : l.most = some n) (hdf : d.params.defaults = [])
    (call : ∀ (w : World) (s₀ s₁ : Shared) (mg mb : Str → Option Value) (fa : Addr) (o : Obj) (pm cd doc : Value) (a : Addr) (vs : List Value) (ns : List Int),
      Ground q loose [] XP w s₀ mg mb s₁.heap → YP w s₁.heap →
      s₁.heap.get? fa = some o → o.data = .func (docDef d.name d.params d.body d.scope pm cd doc) → s₁.heap.CodeRec cd d.name → mg d.name = some (.ref fa) →
      s₁.heap.get? a = some { cls := .type "list", data := .seq vs.toArray } → IntsAre vs ns → ns.length ≤ n → s₁.gens = #[] →
      codeAny (model l.prog w) callerA (.call (.ref fa) ⟨[.ref a], []⟩) (fun r s' => r = .ok (.ret (.bool true)) ∧ OldK s₁.heap s'.heap ∧ s'.os = s₁.os ∧ AllBare s'.gens) s₁) :
    WalkO q loose XP YP l.row.toRowW d [] (fun f vs => PySem.call f vs) := by
  intro w s₀ s₁ mg mb G Y fa o pm cd doc dV kV ho hd hcd hD hmg hg args vals as hpre hlay hrd hwl hlo
  obtain rfl : dV = .none := Dflts.none hD hdf
  obtain rfl : kV = .none := Dflts.noKw hD
  obtain ⟨a, vs, ns, rfl, rfl, hobj, hints, hlen⟩ := script_of hn hpre hwl
  refine enter_call (codeAny_mono (call w s₀ s₁ mg mb fa o pm cd doc a vs ns G Y ho (fd_plain hd) hcd hmg hobj hints hlen hg) fun r s' hq => ?_)
  obtain ⟨rfl, h2, h3, h4⟩ := hq
  exact ⟨.inl ⟨.bool true, .bool true, [], rfl, fun _ => rfl, .bool true, post_true l _, fun _ => ⟨List.Pairwise.nil, fun _ hm => (nomatch hm)⟩⟩, h2, h3, h4⟩

/-! ### rules over ANY heap (no ledger) from facts about the written part K: the library's own take a ledger (News) for what they write -/
section
variable {prog : Program} {w : World} {A : Around} {E : Value → Shared → Prop} {s : Shared} {K : Frag}

/-! the whole heap as the ledger: makes every rule that writes through a ledger a rule over any heap -/
def ledger (h : Heap) (L d : Addr) : List (Addr × Obj) := (List.range h.objs.size).filterMap fun a => if a = L ∨ a = d then none else (h.get? a).map fun o => (a, o)
end
end Att

namespace L2
open PySem PySem.Spec PyProof.Rows

theorem vals_ints : ∀ {vs : List Value} {ns : List Int}, IntsAre vs ns → Vals (ns.map V.int) vs
  | _, _, .nil => .nil
  | _, _, .cons n t h => .cons ⟨t, rfl⟩ (vals_ints h)

/-- nothing is tracked but the script, known to the object (or it is an object of the module) -/
def Only (H : Hp) : Prop := ∀ b, H b = none ∨ ∃ o xs, H b = some (.frz o (.lst xs))

/-- THE HEAD: the law's promise, at the heap behind the top. F, the promise of the law's def, may use that base is part of the heap (so K.In base, base.Ns mainGlobals mg stand in Mod) -/
theorem law_call {cm : Bool} {P : Program} {w : World} {K : PySem.W.Frag} {mg mb : Str → Option Value} {CX : CXT} {k : Nat} {fa a : Addr} {fd : FuncData} {x : Str} {sp : Sp} {s₁ : Shared} {vs : List Value} {ns : List Int}
    (KX : K.In s₁.heap) (hns : s₁.heap.Ns mainGlobals mg) (hb : s₁.heap.Ns builtinsNs mb) (hbb : ∀ x : Str, x ≠ "__name__" → mb x = bootBuiltins x) (hlim : s₁.heap.NoLimit) (hg : s₁.gens = #[])
    (ha : s₁.heap.get? a = some { cls := .type "list", data := .seq vs.toArray }) (hi : IntsAre vs ns) (hl : ns.length ≤ sizeLine) (hr : Room cm k callerA)
    (F : ∀ base : Heap, K.In base → base.Ns mainGlobals mg → FnOk P w K mg base CX cm k fa fd [x] sp) (hbind : ∀ (s : Shared) (u : Value), BindsTo s fd ⟨[u], []⟩ [(x, u)])
    (hsp : ∀ H : Hp, Only H → SqL K H a (ns.map V.int) → sp [.ref a] H (fun v _ => v = .bl true) fun _ _ _ => False)
    (hCX : ∀ H e s', CX [] H s₁ (fun _ _ _ => False) e s' → False) :
    codeAny (model P w) callerA (.call (.ref fa) ⟨[.ref a], []⟩) (fun r s' => r = .ok (.ret (.bool true)) ∧ OldK s₁.heap s'.heap ∧ s'.os = s₁.os ∧ AllBare s'.gens) s₁ := by
  have rv := vals_ints hi
  have lenV := hi.length
  -- from an abstract heap in which nothing but the script may be tracked
  have core : ∀ H : Hp, Only H → SqL K H a (ns.map V.int) → HOk P w H s₁.heap → (∀ b, H b ≠ none → b = a) → (H a ≠ none → K.lookup a = none) →
      codeAny (model P w) callerA (.call (.ref fa) ⟨[.ref a], []⟩) (fun r s' => r = .ok (.ret (.bool true)) ∧ OldK s₁.heap s'.heap ∧ s'.os = s₁.os ∧ AllBare s'.gens) s₁ := by
    intro H hO hS hok hA hK
    have base_of : ∀ {b : Addr} {o : Obj}, s₁.heap.get? b = some o → H b = none → (hidT s₁.heap H).get? b = some o := fun e n => hidT_get e n
    have noA : ∀ {b : Addr} {o : Obj} {es : Array DictEntry} {ep : Nat}, s₁.heap.get? b = some o → o.data = .dict es ep → H b = none := fun {b o es ep} e d => by
      cases q : H b with
      | none => rfl
      | some u =>
        have e' : b = a := hA b (by rw [q]; simp)
        subst e'
        rw [ha] at e; cases e
        have d' : Data.seq vs.toArray _ = Data.dict es ep := d
        cases d'
    have nsK : ∀ {b : Addr} {m : Str → Option Value}, s₁.heap.Ns b m → (hidT s₁.heap H).Ns b m := fun {b m} ⟨o, es, ep, e, d, r⟩ => ⟨o, es, ep, base_of e (noA e d), d, r⟩
    have hKb : K.In (hidT s₁.heap H) := fun b o e => base_of (KX b o e) (by
      cases q : H b with
      | none => rfl
      | some u =>
        have e' : b = a := hA b (by rw [q]; simp)
        subst e'
        rw [hK (by rw [q]; simp)] at e; cases e)
    have hM : Mod K mg (hidT s₁.heap H) := ⟨hKb, nsK hns, ⟨mb, nsK hb, hbb⟩, let ⟨mc, h1, h2⟩ := hlim; ⟨mc, nsK h1, h2⟩⟩
    have e0 : Env0 P w K mg (hidT s₁.heap H) callerA [] s₁ H := ⟨rfl, hM, fun b o e => of_hidT e, Nat.le_of_eq (hidT_size _ _), trivial, fun b hb => absurd (show b ∈ ([] : List Addr) from hb) (by simp), hok, .of_eq hg⟩
    refine codeAny_mono ((F _ hKb (nsK hns)).run callerA [] s₁ H ⟨[.ref a], []⟩ [.ref a] [.ref a] _ _ hr e0 (hbind s₁ (.ref a)) (.cons rfl .nil) (hsp H hO hS)) fun r s' h => ?_
    cases r with
    | error e => exact (hCX H e s' h).elim
    | ok fl =>
      cases fl with
      | next => exact False.elim h
      | brk => exact False.elim h
      | cont => exact False.elim h
      | ret u =>
        obtain ⟨v, H', os, bare, un, hok', r', q⟩ := h
        have q' : v = .bl true := q
        subst q'
        obtain rfl : u = Value.bool true := r'
        refine ⟨rfl, OldK.of_keep fun b o e => ?_, os, bare⟩
        cases q : H b with
        | none => exact un.keep b o e q (by intro z; exact absurd (show b ∈ ([] : List Addr) from z) (by simp)) (by simp)
        | some u =>
          rcases hO b with z | ⟨ob, xs, z⟩
          · rw [q] at z; cases z
          · have z2 := un.frzs b ob _ z
            obtain ⟨e1, _⟩ := hok b _ z
            obtain ⟨e2, _⟩ := hok' b _ z2
            rw [e] at e1; cases e1
            exact e2
  cases hk : K.lookup a with
  | some o =>
    -- the script is one of the module's own objects
    have e := KX a o hk
    rw [ha] at e
    cases e
    refine core (fun _ => none) (fun _ => .inl rfl) (.inr ⟨_, vs.toArray, _, hk, rfl, rfl, rfl, by rw [List.size_toArray, lenV]; exact hl, by simpa using rv⟩) (fun b u z => by have z' : (none : Option HO) = some u := z; cases z') (fun b z => absurd rfl z) fun z => absurd rfl z
  | none =>
    refine core (fun b => if b = a then some (.frz { cls := .type "list", data := .seq vs.toArray } (.lst (ns.map V.int))) else none) (fun b => ?_) (.inl (.inr ⟨{ cls := .type "list", data := .seq vs.toArray }, if_pos rfl⟩)) (fun b u z => ?_) (fun b z => ?_) fun _ => hk
    · by_cases hb : b = a
      · exact .inr ⟨_, _, if_pos hb⟩
      · exact .inl (if_neg hb)
    · by_cases hb : b = a
      · have z' := (if_pos hb).symm.trans z
        cases z'
        subst hb
        exact ⟨ha, by rw [List.length_map]; exact hl, vs, _, rv, ha⟩
      · have z' := (if_neg hb).symm.trans z
        cases z'
    · by_cases hb : b = a
      · exact hb
      · exact absurd (if_neg hb) z
end L2

namespace L2
open PySem PySem.Spec PyProof.Rows

/-- the goal that k_head leaves (case hc), from the law's promise. F gives the function object fd (K's own) once, then the promise over every base -/
theorem walk_of {cm : Bool} {l : PySem.W.OpenLaw} {n k : Nat} {q : Program} {loose : List Str} {XP : (Str → Option Value) → Heap → Prop} {YP : World → Heap → Prop} {d : DefRec} {K : Params → PySem.W.Frag} {CX : World → CXT} {sp : World → Sp} {x : Str}
    (hn : l.most = some n) (hn2 : n ≤ sizeLine) (hdf : d.params.defaults = []) (hr : Room cm k callerA)
    (hY : ∀ (w : World) (h : Heap), YP w h → (K w.params).In h)
    (F : ∀ (w : World) (mg : Str → Option Value) (fa : Addr) (h : Heap), (K w.params).In h → h.Ns mainGlobals mg → mg d.name = some (.ref fa) →
      ∃ fd : FuncData, (∀ (s : Shared) (u : Value), BindsTo s fd ⟨[u], []⟩ [(x, u)]) ∧
        ∀ base : Heap, (K w.params).In base → base.Ns mainGlobals mg → FnOk l.prog w (K w.params) mg base (CX w) cm k fa fd [x] (sp w))
    (hsp : ∀ (w : World) (H : Hp) (a : Addr) (ns : List Int), ns.length ≤ n → Only H → SqL (K w.params) H a (ns.map V.int) → sp w [.ref a] H (fun v _ => v = .bl true) fun _ _ _ => False)
    (hCX : ∀ (w : World) (H : Hp) (s : Shared) (e : Value) (s' : Shared), CX w [] H s (fun _ _ _ => False) e s' → False) :
    PySem.W.WalkO q loose XP YP l.row.toRowW d [] (fun f vs => PySem.call f vs) := by
  refine Att.attach_call hn hdf fun w s₀ s₁ mg mb fa o pm cd doc a vs ns G Y ho hd hcd hmg hobj hints hlen hg => ?_
  have KX := hY w _ Y
  obtain ⟨fd, hb, hF⟩ := F w mg fa _ KX G.T.g hmg
  exact law_call KX G.T.g G.T.b G.T.builtins G.T.nolimit hg hobj hints (Nat.le_trans hlen hn2) hr hF hb (fun H hO hS => hsp w H a ns hlen hO hS) fun H e s' => hCX w H s₁ e s'
end L2



/-! SHORT WORDS over the layer: a def of the text, its body, what a loop and a test want. -/
namespace L2
open PySem PySem.Spec PyProof.Rows

/-! ### the text by places -/
/-- the j-th statement of a class's body -/
def inClass (s : Stmt) (j : Nat) : Stmt := match s with
  | .ClassDef _ _ _ body _ _ _ _ _ _ _ => body.getD j (.Pass ⟨0, 0, 0, 0⟩)
  | _ => .Pass ⟨0, 0, 0, 0⟩
def defArgs (s : Stmt) : Arguments := match s with
  | .FunctionDef _ a _ _ _ _ _ _ _ _ => a
  | _ => { posonlyargs := [], args := [], vararg := none, kwonlyargs := [], kw_defaults := [], kwarg := none, defaults := [] }
def defBody (s : Stmt) : List Stmt := match s with
  | .FunctionDef _ _ b _ _ _ _ _ _ _ => b
  | _ => []
def defScope (s : Stmt) : Scope := match s with
  | .FunctionDef _ _ _ _ _ _ sc _ _ _ => sc
  | _ => { kind := .function, names := [], isGenerator := false, isCoroutine := false }

/-! ### no exception leaves a def -/
abbrev E0 : XK := fun _ _ _ => False
/-! ### a def (or method) of the text as it stands behind the top -/
structure Fun (K : PySem.W.Frag) (x qual : Str) (st : Stmt) (f : Addr) (fd : FuncData) : Prop where
  ex : ∃ (oc : Value) (od : Option Addr) (kV doc pm : Value) (an : Option Addr) (cdv ct : Value) (osl : Array (Option Value)),
    fd = PySem.W.fnOf x qual (defArgs st) (defBody st) (defScope st) .none kV doc pm an cdv ct ∧ K.lookup f = some ⟨oc, od, .func fd, osl⟩ ∧ PySem.W.codeIn K cdv qual = true
  kp : PySem.W.keepIn K (.ref f) = true
section
variable {P : Program} {w : World} {K : PySem.W.Frag} {mg : Str → Option Value} {base : Heap}
/-- how its arguments bind (no defaults): h is «fun _ _ _ _ _ _ us hl => match us, hl with | [_, _], _ => rfl», one _ a parameter -/
theorem Fun.binds {x qual : Str} {st : Stmt} {f : Addr} {fd : FuncData} {ps : List Str} (F : Fun K x qual st f fd)
    (h : ∀ (kV doc pm : Value) (an : Option Addr) (cdv ct : Value) (us : List Value), us.length = ps.length → bindArgs (PySem.W.fnOf x qual (defArgs st) (defBody st) (defScope st) .none kV doc pm an cdv ct) ⟨us, []⟩ = pure (ps.zip us)) : Binds K fd ps [] := by
  obtain ⟨oc, od, kV, doc, pm, an, cdv, ct, osl, rfl, lk, hcd⟩ := F.ex
  exact .all (h kV doc pm an cdv ct)
theorem fun_mk {x qual : Str} {st : Stmt} {f : Addr} {oc : Value} {od an : Option Addr} {osl : Array (Option Value)} {kV doc pm cdv ct : Value} (l : K.lookup f = some ⟨oc, od, .func (PySem.W.fnOf x qual (defArgs st) (defBody st) (defScope st) .none kV doc pm an cdv ct), osl⟩)
    (c : PySem.W.codeIn K cdv qual = true) (k : PySem.W.keepIn K (.ref f) = true) : Fun K x qual st f (PySem.W.fnOf x qual (defArgs st) (defBody st) (defScope st) .none kV doc pm an cdv ct) := ⟨⟨oc, od, kV, doc, pm, an, cdv, ct, osl, rfl, l, c⟩, k⟩
end
/-! ### expressions in short: the name that stands in the i-th slot -/
section
variable {X : Cx}
theorem pv (i : Nat) {x : Str} {pos : Pos} (hN : X.N[i]? = some x := by rfl) (hv : Vis X.env.scope x := by first | exact Or.inl rfl | exact Or.inr (Or.inl rfl) | exact Or.inr (Or.inr rfl)) (hd : (x == ("__debug__" : Str)) = false := by decide)
    (hcd : (x == ("__classdict__" : Str)) = false := by decide) : PE X (.Name x pos) (tVar i) := pe_var hN hv hd hcd
end

/-! ### tests -/
theorem iteF {A B : Prop} (h : B) : if false = true then A else B := by
  rw [if_neg Bool.false_ne_true]
  exact h
theorem iteT {A B : Prop} (h : A) : if true = true then A else B := by
  rw [if_pos rfl]
  exact h
theorem ite2 {c A B : Prop} [Decidable c] (h1 : c → A) (h2 : ¬ c → B) : if c then A else B := by
  by_cases h : c
  · rw [if_pos h]
    exact h1 h
  · rw [if_neg h]
    exact h2 h
/-! ### heaps -/
/-- all that was tracked is as it was -/
def Same (H H' : Hp) : Prop := ∀ b o, H b = some o → H' b = some o
theorem Same.refl (H : Hp) : Same H H := fun _ _ h => h
theorem Same.trans {H H1 H2 : Hp} (a : Same H H1) (b : Same H1 H2) : Same H H2 := fun c o h => b c o (a c o h)
theorem Same.free {H H' : Hp} (e : Same H H') {l : Addr} (h : H' l = Option.none) : H l = Option.none := by
  cases q : H l with
  | none => rfl
  | some o =>
    rw [e l o q] at h
    cases h
theorem Same.seq {K : PySem.W.Frag} {H H' : Hp} {a : Addr} {xs : List V} (e : Same H H') (h : SqL K H a xs) : SqL K H' a xs := by
  rcases h with (h | ⟨o, h⟩) | h
  · exact .inl (.inl (e _ _ h))
  · exact .inl (.inr ⟨o, e _ _ h⟩)
  · exact .inr h

/-! ### a dict's pairs: keys that differ -/
section
variable {κ : Type} [DecidableEq κ]
theorem valV_not {kvs : List (κ × V)} {k : κ} (h : valV kvs k = none) : ¬ k ∈ kvs.map (·.1) := by
  intro m
  obtain ⟨p, hp, e⟩ := List.mem_map.mp m
  have q : (kvs.any fun kv => decide (kv.1 = k)) = true := List.any_eq_true.mpr ⟨p, hp, decide_eq_true e⟩
  rw [valV_any, h] at q
  exact absurd q (by simp)
theorem valV_in {kvs : List (κ × V)} {k : κ} {v : V} (h : valV kvs k = some v) : k ∈ kvs.map (·.1) := by
  have q : (kvs.any fun kv => decide (kv.1 = k)) = true := by
    rw [valV_any, h]
    all_goals rfl
  obtain ⟨p, hp, e⟩ := List.any_eq_true.mp q
  exact List.mem_map.mpr ⟨p, hp, of_decide_eq_true e⟩
end
end L2


set_option Elab.async false
set_option linter.all false
set_option maxRecDepth 100000
namespace L2
open PySem PySem.Spec PyProof.Rows PySem.W

/-! ### exceptions -/
/-- how an exception of the program lies behind a call -/
def CXF (P : Program) (w : World) : CXT := fun outer H s E e s' =>
  ∃ (ea : Addr) (cls a0 : Value) (B : Heap) (H' : Hp), e = .ref ea ∧ s'.os = s.os ∧ AllBare s'.gens ∧ Heap.FlyingW B outer ea cls a0 s'.heap ∧
    Un (frs outer) [] H H' s.heap s'.heap ∧ HOk P w H' B ∧ (∀ b o, s.heap.get? b = some o → H b = none → b ∉ frs outer → B.get? b = some o) ∧ (∀ b o, s.heap.get? b = some o → b ∉ frs outer → ∃ o', B.get? b = some o') ∧ E cls none H'

theorem passF {P : Program} {w : World} {X : Cx} : Passes (CXF P w) X (fun _ => E0) := fun _ _ _ _ _ _ _ ⟨_, _, _, _, _, _, _, _, _, _, _, _, _, h⟩ => h.elim

/-- what an exception that is raised or passes here must lead to -/
structure XOk (X : Cx) (E : St → XK) : Prop where
  raise : ∀ (pins : List (Addr × Obj)) (σ : St) (H : Hp) (s : Shared) (h' : Heap) (e : Addr) (cls : Value) (args : List Value), Inv X pins σ H s → Heap.MadeExcOf s.heap h' e cls args → E σ cls none H → X.xe (.ref e) { s with heap := h' }
  pass : Passes (CXF X.prog X.w) X E
  own : PassesOwn (model X.prog X.w) X.A X.env X.xe

theorem HOk.hide {P : Program} {w : World} {H : Hp} {h : Heap} {as : List Addr} (ok : HOk P w H h) (hf : ∀ b ∈ as, H b = none) : HOk P w H (hideAll h as) := fun a o e =>
  (ok a o e).stay (fun b u hb q => hideAll_get _ q fun hm => by
    rcases hb with rfl | hb
    · rw [hf _ hm] at e; cases e
    · rw [hf _ hm] at hb; cases hb) (fun b q => q) fun b xs q => q

section
variable {P : Program} {w : World} {K : PySem.W.Frag} {mg : Str → Option Value} {base : Heap} {N : List Str} {qual : Str} {scope : Scope} {f : Addr} {cd : Value} {A : Around} {outer : List Env} {s : Shared} {H : Hp} {E : XK} {cm : Bool}

theorem tracked_in {P : Program} {w : World} {H : Hp} {h : Heap} {a : Addr} {o : HO} (x : ObjOk P w H h a o) : ∃ q, h.get? a = some q := by
  cases o with
  | lst xs => obtain ⟨_, its, n, _, e⟩ := x; exact ⟨_, e⟩
  | tup xs => obtain ⟨_, its, _, o, e, _⟩ := x; exact ⟨_, e⟩
  | dK kvs => obtain ⟨_, _, vs, _, o, es, ep, e, _⟩ := x; exact ⟨_, e⟩
  | dT kvs => obtain ⟨_, _, xs, _, o, es, ep, e, _⟩ := x; exact ⟨_, e⟩
  | set S n => obtain ⟨o, es, ep, t, e, _⟩ := x; exact ⟨_, e⟩
  | ins C dx fs => obtain ⟨_, _, _, e, _⟩ := x; exact ⟨_, e⟩
  | own y => exact x
  | xd fs => obtain ⟨mA, ⟨o, es, ep, e, _⟩, _⟩ := x; exact ⟨_, e⟩
  | met f y => exact ⟨_, x⟩
  | rng lo hi => obtain ⟨t, u, v, e⟩ := x; exact ⟨_, e⟩
  | frz o u => exact ⟨_, x.1⟩
  | tbl ps => exact ⟨_, x⟩
  | ext φ => exact x.2.1

/-- the two stations of a def's body: an exception made here, one that comes from a callee -/
theorem xok_def : XOk (cxOf (CXF P w) cm P w K mg base N qual scope f cd A outer s H E) (fun _ => E) := by
  refine ⟨?_, ?_, PassesOwn.leaving⟩
  · intro pins σ H1 s1 h' e cls args I hx hE
    have hfr : (A.deeper (envOfC qual scope s.heap.objs.size f cd)).frames = some (envOfC qual scope s.heap.objs.size f cd :: outer) := I.ok.frames
    have hst : s1.heap.FunFrames base (envOfC qual scope s.heap.objs.size f cd :: outer) := I.stack
    have hin : ∀ env ∈ (envOfC qual scope s.heap.objs.size f cd :: outer), ∀ b, env.frame = some b → b ∈ (envOfC qual scope s.heap.objs.size f cd :: outer).filterMap (·.frame) := fun env he b hb => List.mem_filterMap.mpr ⟨env, he, hb⟩
    have hfree : ∀ b ∈ (envOfC qual scope s.heap.objs.size f cd :: outer).filterMap (·.frame), H1 b = none := I.stkFree
    show wpAny (model P w) (A.deeper (envOfC qual scope s.heap.objs.size f cd)) (leaving (envOfC qual scope s.heap.objs.size f cd) (.ref e)) (fun _ s'' => CXF P w outer H s E (.ref e) s'') (fun e' s'' => CXF P w outer H s E e' s'') { s1 with heap := h' }
    have hloc : ∀ b o, s.heap.get? b = some o → b ∉ frs outer → b ∉ (envOfC qual scope s.heap.objs.size f cd :: outer).filterMap (·.frame) := fun b o q hb hm => by
      obtain ⟨env, he, hf⟩ := List.mem_filterMap.mp hm
      rcases List.mem_cons.mp he with rfl | he
      · have z : s.heap.objs.size = b := Option.some.inj hf
        exact absurd (Heap.lt_size q) (by rw [z]; exact Nat.lt_irrefl _)
      · exact hb (List.mem_filterMap.mpr ⟨env, he, hf⟩)
    refine wpAny_leaves_madeW (s := { s1 with heap := h' }) (h := s1.heap) (base := hideAll s1.heap ((envOfC qual scope s.heap.objs.size f cd :: outer).filterMap (·.frame))) (L := s.heap.objs.size) hfr rfl (fun b o q => of_hideAll _ q) (funFrames_hide hst hin) hx fun h2 t x1 x2 x3 x4 => ?_
    have bs : Un (frs outer) [] H H1 s.heap s1.heap := I.base
    have kB : ∀ b o, s.heap.get? b = some o → H b = none → b ∉ frs outer → (hideAll s1.heap ((envOfC qual scope s.heap.objs.size f cd :: outer).filterMap (·.frame))).get? b = some o := fun b o q hn hb =>
      hideAll_get _ (bs.keep b o q hn hb (by simp)) (hloc b o q hb)
    have hB : HOk P w H1 (hideAll s1.heap ((envOfC qual scope s.heap.objs.size f cd :: outer).filterMap (·.frame))) := I.hok.hide hfree
    refine ⟨e, cls, .ref t, _, H1, rfl, I.os, I.bare, x1, ?_, hB, kB, fun b o q hb => ?_, hE⟩
    rotate_left
    · obtain ⟨o', e1⟩ := bs.there b o q (by simp)
      exact ⟨o', hideAll_get _ e1 (hloc b o q hb)⟩
    refine ⟨fun b o q hn hb _ => x1.1 b o (kB b o q hn hb), fun b o q hn hb _ => ?_, fun b o q hn _ => bs.free b o q hn (by simp), fun b o q _ => ?_, bs.tups, bs.frzs, bs.tbls⟩
    · obtain ⟨sl, e1⟩ := bs.slot b o q hn hb (by simp)
      have hfo : s1.heap.FunFrames base outer := hst.2.2
      obtain ⟨_, o2, e2, hnf⟩ := hfo.mem hb
      rw [e1] at e2
      cases e2
      obtain ⟨sl2, e3⟩ := x4 b _ (hx.keeps _ _ e1) hnf
      exact ⟨sl2, e3⟩
    · cases q1 : H1 b with
      | some u =>
        obtain ⟨oo, z⟩ := tracked_in (hB b u q1)
        exact ⟨oo, x1.1 b oo z⟩
      | none =>
        cases q0 : H b with
        | none =>
          by_cases hb : b ∈ frs outer
          · obtain ⟨sl, e1⟩ := bs.slot b o q q0 hb (by simp)
            have hfo : s1.heap.FunFrames base outer := hst.2.2
            obtain ⟨_, o2, e2, hnf⟩ := hfo.mem hb
            rw [e1] at e2
            cases e2
            obtain ⟨sl2, e3⟩ := x4 b _ (hx.keeps _ _ e1) hnf
            exact ⟨_, e3⟩
          · exact ⟨o, x1.1 b o (kB b o q q0 hb)⟩
        | some u =>
          obtain ⟨o', e1⟩ := bs.there b o q (by simp)
          by_cases hb : b ∈ frs outer
          · have hfo : s1.heap.FunFrames base outer := hst.2.2
            obtain ⟨_, o2, e2, hnf⟩ := hfo.mem hb
            obtain ⟨sl2, e3⟩ := x4 b _ (hx.keeps _ _ e2) hnf
            exact ⟨_, e3⟩
          · exact ⟨o', x1.1 b o' (hideAll_get _ e1 (hloc b o q hb))⟩
  · rintro pins σ H1 s1 e s2 I ⟨ea, cls, a0, B, H', rfl, os, bare, hfl, un, hB, kB, tB, hE⟩
    have hfr : (A.deeper (envOfC qual scope s.heap.objs.size f cd)).frames = some (envOfC qual scope s.heap.objs.size f cd :: outer) := I.ok.frames
    show wpAny (model P w) (A.deeper (envOfC qual scope s.heap.objs.size f cd)) (leaving (envOfC qual scope s.heap.objs.size f cd) (.ref ea)) (fun _ s'' => CXF P w outer H s E (.ref ea) s'') (fun e' s'' => CXF P w outer H s E e' s'') s2
    have hfl : Heap.FlyingW B (envOfC qual scope s.heap.objs.size f cd :: outer) ea cls a0 s2.heap := hfl
    have un : Un (frs (envOfC qual scope s.heap.objs.size f cd :: outer)) [] H1 H' s1.heap s2.heap := un
    have kB : ∀ b o, s1.heap.get? b = some o → H1 b = none → b ∉ frs (envOfC qual scope s.heap.objs.size f cd :: outer) → B.get? b = some o := kB
    have hloc : ∀ b o, s.heap.get? b = some o → b ∉ frs outer → b ∉ frs (envOfC qual scope s.heap.objs.size f cd :: outer) := fun b o q hb hm => by
      obtain ⟨env, he, hf⟩ := List.mem_filterMap.mp hm
      rcases List.mem_cons.mp he with rfl | he
      · have z : s.heap.objs.size = b := Option.some.inj hf
        exact absurd (Heap.lt_size q) (by rw [z]; exact Nat.lt_irrefl _)
      · exact hb (List.mem_filterMap.mpr ⟨env, he, hf⟩)
    have hup : ∀ b, b ∈ frs outer → b ∈ frs (envOfC qual scope s.heap.objs.size f cd :: outer) := fun b hb => by
      obtain ⟨env, he, hf⟩ := List.mem_filterMap.mp hb
      exact List.mem_filterMap.mpr ⟨env, List.mem_cons_of_mem _ he, hf⟩
    have bs : Un (frs outer) [] H H1 s.heap s1.heap := I.base
    refine wpAny_leaves_onW (L := s.heap.objs.size) hfr rfl hfl fun h2 x1 x4 => ?_
    have kB2 : ∀ b o, s.heap.get? b = some o → H b = none → b ∉ frs outer → B.get? b = some o := fun b o q hn hb => kB b o (bs.keep b o q hn hb (by simp)) (bs.free b o q hn (by simp)) (hloc b o q hb)
    have hfo : s2.heap.FunFrames B outer := hfl.2.2.1.2.2
    refine ⟨ea, cls, a0, B, H', rfl, os.trans I.os, bare, x1, ?_, hB, kB2, fun b o q hb => ?_, hE⟩
    rotate_left
    · obtain ⟨o', e1⟩ := bs.there b o q (by simp)
      exact tB b o' e1 (hloc b o q hb)
    refine ⟨fun b o q hn hb _ => x1.1 b o (kB2 b o q hn hb), fun b o q hn hb _ => ?_, fun b o q hn _ => ?_, fun b o q _ => ?_, fun b xs q => un.tups b xs (bs.tups b xs q), fun b o u q => un.frzs b o u (bs.frzs b o u q), fun b ps q => ?_⟩
    · obtain ⟨sl, e1⟩ := bs.slot b o q hn hb (by simp)
      obtain ⟨sl1, e2⟩ := un.slot b _ e1 (bs.free b o q hn (by simp)) (hup b hb) (by simp)
      obtain ⟨_, o2, e3, hnf⟩ := hfo.mem hb
      rw [e2] at e3
      cases e3
      obtain ⟨sl2, e4⟩ := x4 b _ e2 hnf
      exact ⟨sl2, e4⟩
    · by_cases hb : b ∈ frs outer
      · obtain ⟨sl, e1⟩ := bs.slot b o q hn hb (by simp)
        exact un.free b _ e1 (bs.free b o q hn (by simp)) (by simp)
      · exact un.free b o (bs.keep b o q hn hb (by simp)) (bs.free b o q hn (by simp)) (by simp)
    · obtain ⟨o', e1⟩ := bs.there b o q (by simp)
      obtain ⟨o2, e2⟩ := un.there b o' e1 (by simp)
      by_cases hb : b ∈ frs outer
      · obtain ⟨_, o3, e3, hnf⟩ := hfo.mem hb
        obtain ⟨sl2, e4⟩ := x4 b _ e3 hnf
        exact ⟨_, e4⟩
      · obtain ⟨o3, e3⟩ := tB b o' e1 (hloc b o q hb)
        exact ⟨o3, x1.1 b o3 e3⟩
    · obtain ⟨more, z⟩ := bs.tbls b ps q
      obtain ⟨more2, z2⟩ := un.tbls b _ z
      exact ⟨more ++ more2, by rw [z2, Array.append_assoc]⟩
end
end L2

set_option Elab.async false
set_option linter.all false
set_option maxRecDepth 100000
set_option maxHeartbeats 4000000
namespace L2
open PySem PySem.Spec PyProof.Rows PySem.W PySem.Calls Builtin Builtin.ObjectAttr Builtin.Getset_descriptor

/-! ### an exception object: isinstance -/
section
variable {prog : Program} {w : World} {A : Around} {E : Value → Shared → Prop} {K : Frag} {x C : Addr} {o : Obj} {hh : Heap} {g : Array GenState} {d : Drawn} {t : Nat} {os : OsState}
end

/-- what of an own error class the text must have: it stands in the text at C, under ValueError -/
structure ErrC (K : Frag) (C : Addr) : Prop where
  ex : excIn K C [.type "ValueError", .type "Exception", .type "BaseException", .type "object"] "ValueError.__new__" = true
  cl : findIn K (.ref C) "__class__" = some (some (.builtin "object.__class__"))
  ob : mroIn K C (.type "object") = some true
  be : mroIn K C (.type "BaseException") = some true
  ga : findIn K (.ref C) "__getattribute__" = some (some (.builtin "BaseException.__getattribute__"))
  gn : findIn K (.ref C) "__getattr__" = some none
  tu : instIn K (.ref C) (.type "tuple") = some false
  kp : keepIn K (.ref C) = true
end L2

set_option Elab.async false
set_option linter.all false
set_option maxRecDepth 100000
set_option maxHeartbeats 4000000
namespace L2
open PySem PySem.Spec PyProof.Rows PySem.W PySem.Calls

/-! ### raise C(..) -/
theorem own_obj {K : Frag} {h : Heap} {C : Addr} {bmB : List Value} {newId : String} (X : K.In h) (q : excIn K C bmB newId = true) :
    ∃ bm N nm qn bs hdct sn sub ab col dd k0 k1 k2 k3 k5 mN, h.get? C = some (excClassObj nm qn C N bs bm hdct sn sub ab col dd k0 k1 k2 k3 k5 newId) ∧ h.Ns N mN ∧ mN "__init__" = none ∧ OwnTail h bmB bm := by
  unfold excIn at q
  split at q
  · rename_i dd cd sl ho
    split at q
    · rename_i C' bm k0 k1 k2 k3 n k5 hm hs
      simp only [Bool.and_eq_true, beq_iff_eq, Bool.not_eq_true'] at q
      obtain ⟨⟨⟨⟨⟨rfl, rfl⟩, hdel⟩, ht⟩, hok⟩, hni⟩ := q
      obtain ⟨nm, bs, mro, ns, qn, hd, sn, sub, ab, col, del⟩ := cd
      dsimp only at hm hdel hok hni
      subst hm hdel
      have hsl : sl = #[k0, k1, k2, k3, some (.builtin n), k5] := by
        obtain ⟨l⟩ := sl
        simp only at hs
        rw [hs]
      subst hsl
      exact ⟨bm, ns, nm, qn, bs, hd, sn, sub, ab, col, dd, k0, k1, k2, k3, k5, _, X _ _ ho, .of_isNs (isNs_of_in X hok), nsMap_none_of_in X hok hni, tail_of_in X ht⟩
    · cases q
  · cases q
section
variable {X : Cx} {x : Str} {np cpos pos : Pos} {e : Expr} {es : List Expr} {t : TA} {C : Addr} {E : St → XK}
def tRaise (C : Addr) (E : St → XK) (t : TA) : TS := fun _ σ H => t σ H fun vs H1 => vs.length ≤ sizeLine ∧ E σ (.ref C) none H1
theorem ps_raise (hX : XOk X E) (hc : X.calm = true) (hg : Gl X x) (hm : X.mg x = some (.ref C)) (c : ErrC X.K C) (ha : PA X (e :: es) t) (hdb : (x == ("__debug__" : Str)) = false := by decide)
    (he : starEach (e :: es) X.env = (false, eval e X.env) :: starEach es X.env := by rfl) (hpl : (backTo cpos (starEach es X.env)).any (·.1) = false := by rfl) :
    PS X (.Raise (some (.Call (.Name x np) (e :: es) [] cpos)) none pos) (tRaise C E t) := by
  intro pins s σ H D I h
  obtain ⟨bm, N, nm, qn, bs, hdct, sn, sub, ab, col, dd, k0, k1, k2, k3, k5, mN, hC, hN, hni, T⟩ := own_obj I.ok.mod.kin c.ex
  refine wpAny_Raise_call_subT (C := C) (nm := nm) (q := qn) (N := N) (bs := bs) (bm := bm) (hdct := hdct) (sn := sn) (sub := sub) (ab := ab) (col := col) (dd := dd) (k0 := k0) (k1 := k1) (k2 := k2) (k3 := k3) (k5 := k5)
    F.excBase_ValueError (mN := mN) (T.hasType F.excBase_ValueError.hasBase) (I.ok.hd hc) (by rw [he]; show (false || (backTo cpos (starEach es X.env)).any (·.1)) = false; rw [hpl]; rfl) hni (ld_glob I hg hm ⟨rfl, ?_⟩ hdb)
  have hq := thn (ha cpos pins s σ H _ I h) fun us s2 ⟨vs, H2, I2, r2, q2⟩ => show us.length ≤ sizeLine ∧ (∀ b o, X.base.get? b = some o → s2.heap.get? b = some o) ∧ ∀ h' e, Heap.MadeExcOf s2.heap h' e (.ref C) us → X.xe (.ref e) { s2 with heap := h' } from
    ⟨by rw [← r2.length]; exact q2.1, I2.bk, fun h' e hx => hX.raise pins σ H2 s2 h' e (.ref C) us I2 hx q2.2⟩
  rw [he] at hq ⊢
  exact evalArgs_plain (wpAny_mono hq (fun vs s2 h2 => ⟨rfl, h2.1, h2.2.1 _ _ hC, hN.keeps h2.2.1, T.keeps h2.2.1, h2.2.2⟩) fun _ _ y => y)
end

/-! ### f-strings -/
section
variable {X : Cx} {e v1 v2 : Expr} {es : List Expr} {te : TE} {pos : Pos}
/-- a part {e} of a text or a whole number -/
def tFmt (te : TE) : TE := fun σ H Q => te σ H fun x H1 => (∃ y, x = .str y ∧ y.length ≤ sizeLine ∧ Q (.str y) H1) ∨ ∃ i : Int, x = .int i ∧ i.natAbs.log2 < 1920 ∧ Q (.str (toString i)) H1
theorem pe_fmt (h : PE X e te) : PE X (.FormattedValue e (-1) none pos) (tFmt te) := by
  intro pins s σ H Q I hq
  refine FormattedValue_plain (thn (h pins s σ H _ I hq) fun u s1 ⟨x, H1, I1, r1, q1⟩ => ?_)
  rcases q1 with ⟨y, rfl, hy, q⟩ | ⟨i, rfl, hi, q⟩
  · obtain ⟨t, rfl⟩ := r1
    exact formatField_str (fun t' tk => ⟨.str y, H1, I1.tok _, ⟨_, rfl⟩, q⟩) hy
  · obtain ⟨t, rfl⟩ := r1
    exact formatField_int_small hi ⟨.str (toString i), H1, I1.tok _, ⟨_, rfl⟩, q⟩
abbrev TJ := Str → TE
def PJ (X : Cx) (es : List Expr) (t : TJ) : Prop :=
  ∀ (acc : Str) (pins : List (Addr × Obj)) (s : Shared) (σ : St) (H : Hp) (Q : VK), Inv X pins σ H s → t acc σ H Q → wpAny (model X.prog X.w) X.A (joinParts acc (evalEach es X.env)) (EP X pins σ Q) X.xe s
def tJnil : TJ := fun acc _ H Q => acc.length ≤ sizeLine ∧ Q (.str acc) H
def tJcons (te : TE) (t : TJ) : TJ := fun acc σ H Q => te σ H fun x H1 => ∃ y, x = .str y ∧ (acc ++ y).length ≤ sizeLine ∧ t (acc ++ y) σ H1 Q
theorem pj_nil : PJ X [] tJnil := fun acc _ s σ H Q I h => joinParts_nil ⟨.str acc, H, I.tok _, ⟨_, rfl⟩, h.2⟩ h.1
theorem pj_cons {t : TJ} (h1 : PE X e te) (h2 : PJ X es t) : PJ X (e :: es) (tJcons te t) := by
  intro acc pins s σ H Q I h
  refine joinParts_cons (thn (h1 pins s σ H _ I h) fun u s1 ⟨x, H1, I1, r1, y, e, hl, q⟩ => ?_)
  subst e
  obtain ⟨tk, rfl⟩ := r1
  exact ⟨hl, h2 _ pins s1 σ H1 Q I1 q⟩
theorem pe_joined {t : TJ} (h : PJ X (v1 :: v2 :: es) t) : PE X (.JoinedStr (v1 :: v2 :: es) pos) (t Str.empty) := fun pins s σ H Q I hq => JoinedStr_many (h Str.empty pins s σ H Q I hq)
end

/-! ### try .. except C as e -/
/-- within an except suite -/
abbrev Cx.suite (X : Cx) (e : Addr) : Cx := { X with A := X.A.mark (some (.ref e)), calm := false, xe := fun _ _ => False }
section
variable {X : Cx} {pins : List (Addr × Obj)} {σ : St} {H : Hp} {s : Shared} {ea C : Addr} {B : Heap} {a0 : Value}
end

/-! ### the clauses -/
/-- what the clauses do with an exception of class C -/
abbrev TH := Addr → TS
def Ends.drop (D : Ends) (i : Nat) : Ends := { nx := fun σ H => D.nx (σ.set i none) H, rt := D.rt, bk := fun σ H => D.bk (σ.set i none) H, ct := fun σ H => D.ct (σ.set i none) H }
section
variable {X : Cx} {x n : Str} {np pos : Pos} {b0 : Stmt} {suite : List Stmt} {rest : List ExceptHandler} {ts : TS} {tr : TH} {Dc : Addr} {i : Nat}
end
end L2

set_option Elab.async false
set_option linter.all false
set_option maxRecDepth 100000
set_option maxHeartbeats 4000000
namespace L2
open PySem PySem.Spec PyProof.Rows PySem.W PySem.Calls

/-! ### list comprehensions -/
/-- the cells that a block takes over -/
def capsOf (env : Env) : List (Str × NameKind) → List (Str × Addr) → List (Str × Addr)
  | [], acc => acc
  | (n, k) :: r, acc => if k = .free then capsOf env r ((n, (env.cells.lookup n).getD 0) :: acc) else capsOf env r acc
theorem closure_caps {env : Env} {scope : Scope} (h : ∀ x ∈ scope.names, x.2 = .free → ∃ c, env.cells.lookup x.1 = some c) : closureFor scope env = pure (capsOf env scope.names []) := by
  unfold closureFor
  suffices H : ∀ (l : List (Str × NameKind)) (acc : List (Str × Addr)), (∀ x ∈ l, x.2 = .free → ∃ c, env.cells.lookup x.1 = some c) →
      (forIn l acc fun (x : Str × NameKind) (cs : List (Str × Addr)) => if (x.2 == NameKind.free) = true then do let c ← cellOf env x.1; pure (ForInStep.yield ((x.1, c) :: cs)) else pure (ForInStep.yield cs) : Sem (List (Str × Addr))) = pure (capsOf env l acc) by
    have := H scope.names [] h
    simpa using this
  intro l
  induction l with
  | nil => intro acc _; rfl
  | cons x r ih =>
    intro acc hl
    obtain ⟨n, k⟩ := x
    rw [List.forIn_cons]
    by_cases hk : k = .free
    · subst hk
      obtain ⟨c, hc⟩ := hl (n, .free) List.mem_cons_self rfl
      have hc' : env.cells.lookup n = some c := hc
      simp only [beq_self_eq_true, if_true, cellOf, hc', capsOf, Option.getD_some]
      show (pure _ >>= _) = _
      rw [pure_bind]
      exact ih _ fun y hy => hl y (List.mem_cons_of_mem _ hy)
    · have hb : (k == NameKind.free) = false := by simpa using hk
      simp only [hb, Bool.false_eq_true, if_false, capsOf, hk]
      rw [pure_bind]
      exact ih _ fun y hy => hl y (List.mem_cons_of_mem _ hy)
theorem caps_from {env : Env} {x : Str} {c : Addr} : ∀ {l : List (Str × NameKind)} {acc : List (Str × Addr)}, (∀ y ∈ l, y.2 = .free → ∃ c, env.cells.lookup y.1 = some c) →
    (∀ y d, acc.lookup y = some d → env.cells.lookup y = some d) → (capsOf env l acc).lookup x = some c → env.cells.lookup x = some c
  | [], acc, _, ha, h => ha x c h
  | (n, k) :: r, acc, hl, ha, h => by
    unfold capsOf at h
    have hr : ∀ y ∈ r, y.2 = .free → ∃ c, env.cells.lookup y.1 = some c := fun y hy => hl y (List.mem_cons_of_mem _ hy)
    split at h
    · rename_i hk
      obtain ⟨d, hd⟩ := hl (n, k) List.mem_cons_self hk
      refine caps_from hr (fun y e he => ?_) h
      rw [List.lookup_cons] at he
      split at he
      · rename_i q
        have q' : y = n := by simpa using q
        subst q'
        have hd' : env.cells.lookup y = some d := hd
        rw [hd', Option.getD_some] at he
        cases he
        exact hd'
      · exact ha y e he
    · exact caps_from hr ha h
theorem caps_has {env : Env} {x : Str} : ∀ {l : List (Str × NameKind)} {acc : List (Str × Addr)}, ((x, NameKind.free) ∈ l ∨ ∃ c, acc.lookup x = some c) → ∃ c, (capsOf env l acc).lookup x = some c
  | [], acc, h => by
    rcases h with h | h
    · simp at h
    · exact h
  | (n, k) :: r, acc, h => by
    unfold capsOf
    split
    · rename_i hk
      refine caps_has ?_
      rcases h with h | ⟨c, h⟩
      · rcases List.mem_cons.mp h with e | e
        · injection e with e1 e2
          subst e1
          exact .inr ⟨(env.cells.lookup x).getD 0, by simp [List.lookup_cons]⟩
        · exact .inl e
      · by_cases q : x = n
        · subst q
          exact .inr ⟨(env.cells.lookup x).getD 0, by simp [List.lookup_cons]⟩
        · refine .inr ⟨c, ?_⟩
          rw [List.lookup_cons]
          have : (x == n) = false := by simpa using q
          rw [this]
          exact h
    · rename_i hk
      refine caps_has ?_
      rcases h with h | h
      · rcases List.mem_cons.mp h with e | e
        · injection e with e1 e2
          exact absurd e2.symm hk
        · exact .inl e
      · exact .inr h
theorem relabel_free {env : Env} {x : Str} : ∀ {names : List (Str × NameKind)}, names.lookup x = some .free →
    (names.map fun (n, k) => if (k == NameKind.free && env.scope.kind == .function && env.kindOf n == some .cell) then (n, NameKind.cell) else (n, k)).lookup x = some .cell ∨
    (names.map fun (n, k) => if (k == NameKind.free && env.scope.kind == .function && env.kindOf n == some .cell) then (n, NameKind.cell) else (n, k)).lookup x = some .free
  | [], h => by simp at h
  | (n, k) :: r, h => by
    have ih := @relabel_free env x r
    show List.lookup x ((if (k == NameKind.free && env.scope.kind == .function && env.kindOf n == some .cell) = true then (n, NameKind.cell) else (n, k)) :: _) = _ ∨ List.lookup x ((if (k == NameKind.free && env.scope.kind == .function && env.kindOf n == some .cell) = true then (n, NameKind.cell) else (n, k)) :: _) = _
    rw [List.lookup_cons] at h
    by_cases hc : (k == NameKind.free && env.scope.kind == .function && env.kindOf n == some .cell) = true
    · rw [if_pos hc, List.lookup_cons]
      cases hx : x == n with
      | true => exact .inl rfl
      | false => rw [hx] at h; exact ih h
    · rw [if_neg hc, List.lookup_cons]
      cases hx : x == n with
      | true => rw [hx] at h; exact .inr h
      | false => rw [hx] at h; exact ih h
theorem relabel_only {env : Env} {x : Str} : ∀ {names : List (Str × NameKind)}, (∀ y ∈ names, y.2 ≠ .cell) →
    ((names.map fun (n, k) => if (k == NameKind.free && env.scope.kind == .function && env.kindOf n == some .cell) then (n, NameKind.cell) else (n, k)).lookup x = some .cell ∨
    (names.map fun (n, k) => if (k == NameKind.free && env.scope.kind == .function && env.kindOf n == some .cell) then (n, NameKind.cell) else (n, k)).lookup x = some .free) → (x, NameKind.free) ∈ names
  | [], _, h => by simp at h
  | (n, k) :: r, hc, h => by
    have ih := @relabel_only env x r fun y hy => hc y (List.mem_cons_of_mem _ hy)
    have h2 : List.lookup x ((if (k == NameKind.free && env.scope.kind == .function && env.kindOf n == some .cell) = true then (n, NameKind.cell) else (n, k)) :: _) = _ ∨ List.lookup x ((if (k == NameKind.free && env.scope.kind == .function && env.kindOf n == some .cell) = true then (n, NameKind.cell) else (n, k)) :: _) = _ := h
    clear h
    by_cases hq : (k == NameKind.free && env.scope.kind == .function && env.kindOf n == some .cell) = true
    · rw [if_pos hq, List.lookup_cons] at h2
      cases hx : x == n with
      | true =>
        have e : x = n := by simpa using hx
        subst e
        have hk : k = .free := by
          rw [Bool.and_eq_true, Bool.and_eq_true] at hq
          simpa using hq.1.1
        subst hk
        exact List.mem_cons_self
      | false => rw [hx] at h2; exact List.mem_cons_of_mem _ (ih h2)
    · rw [if_neg hq, List.lookup_cons] at h2
      cases hx : x == n with
      | true =>
        rw [hx] at h2
        have e : x = n := by simpa using hx
        subst e
        rcases h2 with h | h
        · have h' : some k = some NameKind.cell := h
          exact absurd (Option.some.inj h') (hc (x, k) List.mem_cons_self)
        · have h' : some k = some NameKind.free := h
          rw [Option.some.inj h']
          exact List.mem_cons_self
      | false => rw [hx] at h2; exact List.mem_cons_of_mem _ (ih h2)

/-- within a comprehension's block -/
def compX (X : Cx) (scope : Scope) (N : List Str) (s₀ : Shared) (H₀ : Hp) (C : Addr) (fp : List Addr) (pn : List (Addr × Obj)) : Cx :=
  { X with N := N, s₀ := s₀, H₀ := H₀, env := compEnvC scope (capsOf X.env scope.names []) C X.env, outer := X.stack, ex := fp, fn := fun _ => false, pn := pn, xe := fun _ _ => False }
/-- what a block's scope must be: its own names ls, the names that it takes over cs, at the places js of the def -/
structure CompScope (N : List Str) (sc : Scope) (scope : Scope) (ls : List Str) (js : List Nat) (cs : List Str) : Prop where
  kind : scope.kind = .function
  ncell : ∀ x ∈ scope.names, x.2 ≠ .cell
  names : ∀ x ∈ scope.names, x.2 = .local → scope.names.lookup x.1 = some .local
  loc : ∀ x ∈ ls, scope.names.lookup x = some .local
  at_ : cs = js.filterMap (N[·]?)
  len : cs.length = js.length
  cap : ∀ x ∈ cs, scope.names.lookup x = some .free ∧ (sc.names.lookup x = some .cell ∨ sc.names.lookup x = some .free)
  free : ∀ x ∈ scope.names, x.2 = .free → (sc.names.lookup x.1 = some .cell ∨ sc.names.lookup x.1 = some .free)
  nd : (ls ++ cs).Nodup

section
variable {X : Cx} {pins : List (Addr × Obj)} {σ : St} {H : Hp} {s : Shared} {scope : Scope} {ls cs : List Str} {js : List Nat} {fp : List Addr}
theorem CompScope.has (S : CompScope X.N X.env.scope scope ls js cs) (ok : X.Ok) : ∀ x ∈ scope.names, x.2 = .free → ∃ c, X.env.cells.lookup x.1 = some c := fun x hx hf => ok.has x.1 (S.free x hx hf)
/-- the names' values at the block's entry -/
def capσ (ls : List Str) (js : List Nat) (σ : St) : St := ls.map (fun _ => none) ++ js.map fun j => (σ[j]?).join
theorem comp_ok (S : CompScope X.N X.env.scope scope ls js cs) (I : Inv X pins σ H s) (hf : ∀ b ∈ fp, FpOk X pins H b) (hl : ∀ b ∈ fp, b < s.heap.objs.size) : (compX X scope (ls ++ cs) s H s.heap.objs.size fp (X.pn ++ pins)).Ok := by
  have fromX : ∀ {x : Str} {c : Addr}, (capsOf X.env scope.names []).lookup x = some c → X.env.cells.lookup x = some c := fun {x c} h => caps_from (S.has I.ok) (fun y d h => by simp at h) h
  refine ⟨I.ok.mod, S.kind, I.ok.glob, I.ok.blt, Nat.le_refl _, fun x y c h1 h2 => I.ok.inj x y c (fromX h1) (fromX h2), fun x h => caps_has (.inl (relabel_only S.ncell h)), (fun x c h => Bool.noConfusion (show false = true from h)), I.ok.hd, I.ok.frames, .inl rfl, fun b hb => ⟨Nat.ne_of_lt (hl b hb), fun x c h => (hf b hb).2.2.2.2.1 x c (fromX h)⟩,
    I.bs, Nat.le_trans I.ok.bsz I.sz, fun b o e hb => ?_, fun b hb hm => ?_, I.stack, I.stkFree⟩
  · rcases (hf b hb).2.2.2.1 with z | z
    · exact I.ok.noex b o e z
    · exact absurd (Nat.lt_of_lt_of_le (Heap.lt_size e) I.ok.bsz) (Nat.not_lt.mpr z)
  · rcases List.mem_cons.mp (I.stkSub b hm) with z | z
    · exact (hf b hb).2.1 z
    · exact (hf b hb).2.2.1 z
theorem comp_inv {h1 : Heap} {m : Str → Option Value} (S : CompScope X.N X.env.scope scope ls js cs) (I : Inv X pins σ H s) (hf : ∀ b ∈ fp, FpOk X pins H b) (hl : ∀ b ∈ fp, b < s.heap.objs.size)
    (hn : h1.Ns s.heap.objs.size m) (hk : ∀ b o, s.heap.get? b = some o → h1.get? b = some o) :
    Inv (compX X scope (ls ++ cs) s H s.heap.objs.size fp (X.pn ++ pins)) [] (capσ ls js σ) H { s with heap := h1 } := by
  have fromX : ∀ {x : Str} {c : Addr}, (capsOf X.env scope.names []).lookup x = some c → X.env.cells.lookup x = some c := fun {x c} h => caps_from (S.has I.ok) (fun y d h => by simp at h) h
  have len : (capσ ls js σ).length = (ls ++ cs).length := by
    unfold capσ
    rw [List.length_append, List.length_append, List.length_map, List.length_map, S.len]
  refine ⟨comp_ok S I hf hl, rfl, I.bare, Un.kept hk, ⟨m, hn, fun i x v e1 e2 e3 => ?_⟩, fun x c e => ?_, I.hok.fresh (Nat.le_refl _), fun x c e => I.freeC x c (fromX e), fun p hp => ?_, I.hok.kept hk, len⟩
  · have e1 : (ls ++ cs)[i]? = some x := e1
    unfold capσ at e2
    by_cases hi : i < ls.length
    · rw [List.getElem?_append_left (by simpa using hi), List.getElem?_map] at e2
      cases q : ls[i]? with
      | none => rw [q] at e2; cases e2
      | some y => rw [q] at e2; cases e2
    · have hi' : ls.length ≤ i := Nat.not_lt.mp hi
      rw [List.getElem?_append_right (by simpa using hi'), List.getElem?_map, List.length_map] at e2
      rw [List.getElem?_append_right hi'] at e1
      obtain ⟨hc1, hc2⟩ := S.cap x (List.mem_of_getElem? e1)
      cases q : js[i - ls.length]? with
      | none => rw [q] at e2; cases e2
      | some j =>
        rw [q] at e2
        have e2 : (σ[j]?).join = some v := Option.some.inj e2
        have eN : X.N[j]? = some x := by
          have aux : ∀ (js : List Nat) (cs : List Str) (i : Nat), cs = js.filterMap (X.N[·]?) → cs.length = js.length → ∀ j x, js[i]? = some j → cs[i]? = some x → X.N[j]? = some x := by
            intro js
            induction js with
            | nil => intro cs i _ _ j x hj _; simp at hj
            | cons a r ih =>
              intro cs i he hl j x hj hx
              rw [List.filterMap_cons] at he
              cases qa : X.N[a]? with
              | none =>
                rw [qa] at he
                have hle := List.length_filterMap_le (X.N[·]?) r
                simp only at he
                rw [he, List.length_cons] at hl
                omega
              | some y =>
                rw [qa] at he
                simp only at he
                subst he
                cases i with
                | zero =>
                  simp at hj hx
                  subst hj hx
                  exact qa
                | succ i => exact ih _ i rfl (by simpa using hl) j x (by simpa using hj) (by simpa using hx)
          exact aux js cs _ S.at_ S.len j x q e1
        obtain ⟨mX, _, hlX⟩ := I.loc
        have e2' : σ[j]? = some (some v) := by
          cases z : σ[j]? with
          | none => rw [z] at e2; cases e2
          | some w => rw [z] at e2; rw [show w = some v from e2]
        obtain ⟨u, r, l⟩ := hlX j x v eN e2' (hc2.elim (fun z => .inr (.inl z)) fun z => .inr (.inr z))
        refine ⟨u, r, ?_⟩
        rcases l with ⟨z, _⟩ | ⟨_, c, z1, o, z2, z3⟩
        · have z : X.env.scope.names.lookup x = some .local := z
          rcases hc2 with w | w <;> (rw [z] at w; cases w)
        · refine .inr ⟨relabel_free hc1, c, ?_, o, hk c o z2, z3⟩
          obtain ⟨c', hc'⟩ := caps_has (env := X.env) (l := scope.names) (acc := []) (x := x) (.inl (PySem.mem_of_lookup hc1))
          have := fromX hc'
          rw [z1] at this
          cases this
          exact hc'
  · obtain ⟨v, o, z1, z2⟩ := I.cell x c (fromX e)
    exact ⟨v, o, hk c o z1, z2⟩
  · have hp : p ∈ X.pn ++ pins := by simpa [compX] using hp
    obtain ⟨e, n, ne, nf, d⟩ := I.pin p hp
    refine ⟨hk _ _ e, n, Nat.ne_of_lt (Heap.lt_size e), fun hm => ?_, d⟩
    rcases List.mem_cons.mp (I.stkSub p.1 hm) with z | z
    · exact ne z
    · exact nf z
end

section
variable {prog : Program} {w : World} {A : Around} {R : Result → Shared → Prop} {s : Shared}
theorem compLoop_any {elt target iter : Expr} {ifs : List Expr} {scope : Scope} {pos : Pos} {it acc : Value} {env : Env} (L : Nat → Shared → Prop)
    (turn : ∀ n s, L n s → wpAny (model prog w) A (pyNext it) (fun r s₁ => match r with
      | none => R (.ok .next) s₁
      | some v => wpAny (model prog w) A (letOwnedTupleGo target it v) (fun _ s₁' => wpAny (model prog w) A (assign target env v) (fun _ s₂ =>
          wpAny (model prog w) A (forIn ifs true fun c r => if r = true then do let ok ← isTrue c env (eval c env); pure (ForInStep.yield ok) else pure (ForInStep.yield r)) (fun ok s₃ =>
            if ok = true then wpAny (model prog w) A (eval elt env) (fun x s₄ =>
              wpAny (model prog w) A (call (.builtin "list.append") [acc, x]) (fun _ s₅ => ∃ m, m < n ∧ L m s₅) (fun _ _ => False) s₄) (fun _ _ => False) s₃
            else ∃ m, m < n ∧ L m s₃) (fun _ _ => False) s₂) (fun _ _ => False) s₁') (fun _ _ => False) s₁) (fun _ _ => False) s)
    (n : Nat) (h : L n s) : codeAny (model prog w) A (.compLoop (.ListComp elt [⟨target, iter, ifs, 0⟩] scope pos) 0 it acc env) R s := by
  refine codeAny_loop rfl L (fun n s hI => ?_) n h
  show wpAny _ A ((compTurn (.ListComp elt [⟨target, iter, ifs, 0⟩] scope pos) 0 it acc env).onRaise (fun x => do noteFrame x env; theTreesLotGoes x)) _ _ s
  refine wpAny_noted ?_
  rw [compTurn_list]
  refine wpAny_mono (E := fun _ _ => False) ?_ (fun _ _ q => q) fun _ _ z => False.elim z
  refine wpAny_bind (wpAny_standAt (wpAny_bind (wpAny_mono (turn n s hI) (fun r s₁ h₁ => ?_) fun _ _ h' => h')))
  cases r with
  | none => exact wpAny_pure h₁
  | some v =>
    refine wpAny_bind (wpAny_mono h₁ (fun _ s₁' h₁ => ?_) fun _ _ h' => h')
    refine wpAny_bind (wpAny_mono h₁ (fun _ s₂ h₂ => wpAny_bind (wpAny_mono h₂ (fun ok s₃ h₃ => ?_) fun _ _ h' => h')) fun _ _ h' => h')
    cases ok with
    | false => exact wpAny_pure ⟨rfl, h₃⟩
    | true =>
      exact wpAny_bind (wpAny_bind (wpAny_mono h₃ (fun x s₄ h₄ => wpAny_bind (wpAny_mono h₄ (fun _ s₅ h₅ => wpAny_pure (wpAny_pure ⟨rfl, h₅⟩)) fun _ _ h' => h')) fun _ _ h' => h'))
end

/-- the block's tests (none or one) -/
def PTs (X : Cx) (ifs : List Expr) (t : TT) : Prop :=
  ∀ (pins : List (Addr × Obj)) (s : Shared) (σ : St) (H : Hp) (Q : Bool → Hp → Prop), Inv X pins σ H s → t σ H Q →
    wpAny (model X.prog X.w) X.A (forIn ifs true fun c r => if r = true then do let ok ← isTrue c X.env (eval c X.env); pure (ForInStep.yield ok) else pure (ForInStep.yield r)) (TP X pins σ Q) X.xe s
def tYes : TT := fun _ H Q => Q true H
theorem pts_nil {X : Cx} : PTs X [] tYes := fun _ _ _ H _ I h => wpAny_tests_nil ⟨H, I, h⟩
theorem pts_one {X : Cx} {c : Expr} {t : TT} (h : PT X c t) : PTs X [c] t := fun pins s σ H Q I hq => wpAny_tests_one (h pins s σ H Q I hq)
/-- the block's turns, by an invariant W -/
def CompW (J : It) (ls : List Str) (js : List Nat) (g : TG) (tt : TT) (te : TE) (σ : St) (H1 : Hp) (D : Addr) (Q : VK) : Prop :=
  ∃ W : Nat → Nat → List V → St → Hp → Prop, (∃ m, W 0 m [] (capσ ls js σ) (upd H1 D (.lst []))) ∧ ∀ i m ys σ' H', W i m ys σ' H' →
  (J.stop i H' ∧ Q (.ref D) H') ∨ (J.go i H' ∧ ∃ N : List V → St → Hp → Prop, (∀ ys' σ2 H2, N ys' σ2 H2 → ∃ m', m' < m ∧ W (i + 1) m' ys' σ2 H2) ∧ ∀ x H2, J.yld i H' x H2 → g x σ' H2 fun σ2 H3 => tt σ2 H3 fun b H4 =>
    if b = true then te σ2 H4 fun y H5 => H5 D = some (.lst ys) ∧ ys.length < sizeLine ∧ N (ys ++ [y]) σ2 (upd H5 D (.lst (ys ++ [y]))) else N ys σ2 H4)
def tComp (wi : TI) (ls : List Str) (js : List Nat) (g : TG) (tt : TT) (te : TE) : TE := fun σ H Q => wi σ H fun J H1 => ∀ D, H1 D = none → CompW J ls js g tt te σ H1 D Q
section
variable {X : Cx} {tg iter elt : Expr} {ifs : List Expr} {scope : Scope} {pos : Pos} {wi : TI} {g : TG} {tt : TT} {te : TE} {ls cs : List Str} {js : List Nat}
theorem comp_core {pins : List (Addr × Obj)} {s : Shared} {σ : St} {H : Hp} {Q : VK} {use : Option (Value → Sem Unit)} {QQ : Value → Shared → Prop} (hc : X.calm = true) (S : CompScope X.N X.env.scope scope ls js cs) (hi : PI X tg iter wi)
    (hg : ∀ s₀ H₀ C fp pn, PG (compX X scope (ls ++ cs) s₀ H₀ C fp pn) tg g) (ht : ∀ s₀ H₀ C fp pn, PTs (compX X scope (ls ++ cs) s₀ H₀ C fp pn) ifs tt) (he : ∀ s₀ H₀ C fp pn, PE (compX X scope (ls ++ cs) s₀ H₀ C fp pn) elt te)
    (I : Inv X pins σ H s) (h : tComp wi ls js g tt te σ H Q)
    (hend : ∀ (D C : Addr) (H' : Hp) (s' : Shared) (m : Str → Option Value), Inv X pins σ H' s' → Q (.ref D) H' → s'.heap.Ns C m → FpOk X pins H' C → compPost (model X.prog X.w) X.A X.xe use QQ (.ref D) C (.ok .next) s')
    (hs : ∀ x, foldedSetIterable iter X.env x = pure x := by intro _; rfl) :
    wpAny (model X.prog X.w) X.A (comprehension (.ListComp elt [⟨tg, iter, ifs, 0⟩] scope pos) scope X.env (firstIterPos [⟨tg, iter, ifs, 0⟩] pos) (newList []) false (eval iter X.env) use) QQ X.xe s := by
  refine wpAny_comprehension_free rfl hs (closure_caps (S.has I.ok)) S.kind S.names (thn (hi pins s σ H _ I h) fun v s1 h1 => thn h1 fun itv s2 h2 => ?_)
  obtain ⟨it, fp, tn, J, H2, rfl, I2, T, st2, f2, hW⟩ := h2
  have fl2 : ∀ b ∈ fp, b < s2.heap.objs.size := fun b hb => by
    obtain ⟨o, e, _⟩ := T.obj 0 _ st2 b hb
    exact Heap.lt_size e
  refine wpAny_newObj_type ?_
  have hD : H2 s2.heap.objs.size = none := I2.hok.fresh (Nat.le_refl _)
  obtain ⟨W, ⟨m0, w0⟩, turn⟩ := hW _ hD
  have I3 : Inv X pins σ (upd H2 s2.heap.objs.size (.lst [])) { s2 with heap := s2.heap.push { cls := .type "list", dict := none, data := .seq ([] : List Value).toArray } } :=
    I2.laid (t' := s2.toks) (fun b u e => Heap.get?_push_of_some _ e) (Nat.le_refl _) ⟨Nat.zero_le _, [], 0, .nil, Heap.get?_push_size _ rfl⟩
  have f3 : ∀ b ∈ fp, FpOk X pins (upd H2 s2.heap.objs.size (.lst [])) b := fun b hb => ⟨by rw [upd_ne (Nat.ne_of_lt (fl2 b hb))]; exact (f2 b hb).1, (f2 b hb).2⟩
  generalize hH3 : upd H2 s2.heap.objs.size (.lst []) = H3 at I3 f3 w0
  generalize hs3 : ({ s2 with heap := s2.heap.push { cls := .type "list", dict := none, data := .seq ([] : List Value).toArray } } : Shared) = s3 at I3
  have fl3 : ∀ b ∈ fp, b < s3.heap.objs.size := fun b hb => by
    rw [← hs3]
    show b < (s2.heap.push _).objs.size
    rw [Heap.size_push]
    exact Nat.lt_succ_of_lt (fl2 b hb)
  have st3 : tn 0 s3.heap := T.keep 0 _ _ st2 fun b hb o e => by rw [← hs3]; exact Heap.get?_push_of_some _ e
  refine wpAny_newFunctionEnv S.ncell (by intro y hy; simp at hy) (fun h4 hns hsb => ?_) S.kind
  have k4 : ∀ b o, s3.heap.get? b = some o → h4.get? b = some o := fun b o e => hsb.extBut b o (Nat.ne_of_lt (Heap.lt_size e)) (Heap.get?_push_of_some _ e)
  have I4 := comp_inv (h1 := h4) S I3 f3 fl3 hns k4
  have I4' := I4.tok (s3.toks + ([] : List (Str × Value)).length)
  have st4 : tn 0 h4 := T.keep 0 _ _ st3 fun b hb o e => k4 b o e
  show codeAny (model X.prog X.w) X.A (.compStart (.ListComp elt [⟨tg, iter, ifs, 0⟩] scope pos) 0 (.ref it) (.ref s2.heap.objs.size) (compEnvC scope (capsOf X.env scope.names []) s3.heap.objs.size X.env)) (compPost (model X.prog X.w) X.A X.xe use QQ (.ref s2.heap.objs.size) s3.heap.objs.size) _
  have stat : ∀ {H' : Hp}, (∀ b ∈ fp, H' b = none) → ∀ b ∈ fp, FpOk (compX X scope (ls ++ cs) s3 H3 s3.heap.objs.size fp (X.pn ++ pins)) [] H' b := fun {H'} hn b hb => by
    obtain ⟨q1, q2, q3, q4, q5, q6⟩ := f3 b hb
    refine ⟨hn b hb, Nat.ne_of_lt (fl3 b hb), fun hm => ?_, .inl hb, fun x c e => q5 x c (caps_from (S.has I.ok) (fun y d z => by simp at z) e), fun p hp => q6 p (by simpa [compX] using hp)⟩
    rcases List.mem_cons.mp (I3.stkSub b hm) with z | z
    · exact q2 z
    · exact q3 z
  have loop : codeAny (model X.prog X.w) X.A (.compLoop (.ListComp elt [⟨tg, iter, ifs, 0⟩] scope pos) 0 (.ref it) (.ref s2.heap.objs.size) (compEnvC scope (capsOf X.env scope.names []) s3.heap.objs.size X.env)) (compPost (model X.prog X.w) X.A X.xe use QQ (.ref s2.heap.objs.size) s3.heap.objs.size)
      { s3 with heap := h4, toks := s3.toks + ([] : List (Str × Value)).length } := by
    refine compLoop_any (fun n s' => ∃ i σ' H', Inv (compX X scope (ls ++ cs) s3 H3 s3.heap.objs.size fp (X.pn ++ pins)) [] σ' H' s' ∧ tn i s'.heap ∧ (∀ b ∈ fp, H' b = none) ∧ ∃ ys, W i n ys σ' H') ?_ m0 ⟨0, _, _, I4', st4, fun b hb => (f3 b hb).1, [], w0⟩
    rintro n s5 ⟨i, σ5, H5, I5, st5, fr5, ys, w5⟩
    rcases turn i n ys σ5 H5 w5 with ⟨stop, qn⟩ | ⟨go, N, hN, step⟩
    · refine thn (T.done (compX X scope (ls ++ cs) s3 H3 s3.heap.objs.size fp (X.pn ++ pins)) rfl rfl rfl hc i [] s5 σ5 H5 (fun _ _ => False) I5 (stat fr5) st5 stop) fun r s6 ⟨hr, I6⟩ => ?_
      subst hr
      obtain ⟨m, hm, _⟩ := id I6.loc
      have un : Un (frs X.stack) fp H3 H5 s3.heap s6.heap := I6.base
      have I7 : Inv X pins σ H5 s6 := I3.call' (ch := fp) I6.os un I6.hok I6.bare fun b hb => by
        obtain ⟨q1, q2, q3, q4, q5, q6⟩ := f3 b hb
        exact ⟨q4, q2, q5, q6⟩
      have fc : FpOk X pins H5 s3.heap.objs.size := I3.fpOk (Nat.le_refl _) I6.free
      exact hend _ _ H5 s6 m I7 qn hm fc
    · refine thn (T.item (compX X scope (ls ++ cs) s3 H3 s3.heap.objs.size fp (X.pn ++ pins)) rfl rfl rfl hc i [] s5 σ5 H5 (fun _ _ => False) I5 (stat fr5) st5 go) fun r s6 ⟨u, hr, h6⟩ => ?_
      subst hr
      refine thn h6 fun _ s7 ⟨x, H7, I7, r7, y7, st7, fr7⟩ => ?_
      have I7' := I7.pinned (stat fr7) (T.obj _ _ st7)
      refine thn (hg _ _ _ _ _ _ s7 σ5 H7 x u _ I7' r7 (step x H7 y7)) fun _ s8 ⟨σ8, H8, I8, q8⟩ => ?_
      refine thn (ht _ _ _ _ _ _ s8 σ8 H8 _ I8 q8) fun b s9 ⟨H9, I9, q9⟩ => ?_
      have again : ∀ {ys' : List V} {σ' : St} {H' : Hp} {s' : Shared}, Inv (compX X scope (ls ++ cs) s3 H3 s3.heap.objs.size fp (X.pn ++ pins)) ([] ++ pinsAt fp s7.heap) σ' H' s' → N ys' σ' H' →
          ∃ m, m < n ∧ ∃ i σ' H', Inv (compX X scope (ls ++ cs) s3 H3 s3.heap.objs.size fp (X.pn ++ pins)) [] σ' H' s' ∧ tn i s'.heap ∧ (∀ b ∈ fp, H' b = none) ∧ ∃ ys, W i m ys σ' H' := fun {ys' σ' H' s'} I' n' => by
        obtain ⟨m', hm', w'⟩ := hN ys' σ' H' n'
        refine ⟨m', hm', i + 1, σ', H', I'.unpinned, T.keep _ _ _ st7 fun b hb o e => (I'.pin (b, o) (List.mem_append_right _ (List.mem_append_right _ (mem_pinsAt hb e)))).1, fun b hb => ?_, ys', w'⟩
        obtain ⟨o, e, d⟩ := T.obj _ _ st7 b hb
        exact (I'.pin (b, o) (List.mem_append_right _ (List.mem_append_right _ (mem_pinsAt hb e)))).2.1
      cases b with
      | false => exact again I9 q9
      | true =>
        refine thn (he _ _ _ _ _ _ s9 σ8 H9 _ I9 q9) fun u2 s10 ⟨y, H10, I10, r10, hys, hz, q10⟩ => ?_
        refine thn (mt_append _ s10 σ8 H10 (.ref s2.heap.objs.size) [y] (.ref s2.heap.objs.size) [u2] (fun _ H' => N (ys ++ [y]) σ8 H') I10 rfl (.cons r10 .nil) ⟨_, ys, y, rfl, rfl, hys, hz, q10⟩) fun _ s11 ⟨_, H11, I11, _, q11⟩ => ?_
        exact again I11 q11
  exact codeAny_compStart_list loop (T.self _ 0 _ _ _ st4 loop)
/-- [elt for tg in iter if ..] as a value -/
theorem pe_comp (hc : X.calm = true) (S : CompScope X.N X.env.scope scope ls js cs) (hi : PI X tg iter wi)
    (hg : ∀ s₀ H₀ C fp pn, PG (compX X scope (ls ++ cs) s₀ H₀ C fp pn) tg g) (ht : ∀ s₀ H₀ C fp pn, PTs (compX X scope (ls ++ cs) s₀ H₀ C fp pn) ifs tt) (he : ∀ s₀ H₀ C fp pn, PE (compX X scope (ls ++ cs) s₀ H₀ C fp pn) elt te)
    (hs : ∀ x, foldedSetIterable iter X.env x = pure x := by intro _; rfl) : PE X (.ListComp elt [⟨tg, iter, ifs, 0⟩] scope pos) (tComp wi ls js g tt te) := by
  intro pins s σ H Q I h
  rw [eval_ListComp]
  refine comp_core (use := none) hc S hi hg ht he I h (fun D C H' s' m I' q hm fc => ⟨m, hm, fun h' hsb => ?_⟩) hs
  obtain ⟨q1, q2, q3, q4, q5, q6⟩ := fc
  exact ⟨.ref D, H', I'.turned (t' := s'.toks) (fun b o hb e => hsb.extBut b o hb e) q1 (Ne.symm (Ne.symm q2)) q4 q5 q6, rfl, q⟩
/-- x = [elt for tg in iter if ..], the store within the block's end -/
theorem ps_comp {x : Str} {i : Nat} {pos' spos : Pos} (hc : X.calm = true) (hN : X.N.Nodup) (hi' : X.N[i]? = some x) (hx : X.env.scope.names.lookup x = some .local) (S : CompScope X.N X.env.scope scope ls js cs) (hi : PI X tg iter wi)
    (hg : ∀ s₀ H₀ C fp pn, PG (compX X scope (ls ++ cs) s₀ H₀ C fp pn) tg g) (ht : ∀ s₀ H₀ C fp pn, PTs (compX X scope (ls ++ cs) s₀ H₀ C fp pn) ifs tt) (he : ∀ s₀ H₀ C fp pn, PE (compX X scope (ls ++ cs) s₀ H₀ C fp pn) elt te)
    (hsw : swapsWith (.ListComp elt [⟨tg, iter, ifs, 0⟩] scope pos) (some (.Name x pos')) spos.line X.env = pure true := by rfl)
    (hs : ∀ x, foldedSetIterable iter X.env x = pure x := by intro _; rfl) : PS X (.Assign [.Name x pos'] (.ListComp elt [⟨tg, iter, ifs, 0⟩] scope pos) spos) (tAsg (tComp wi ls js g tt te) (gName i)) := by
  intro pins s σ H D I h
  rw [exec_Assign_Name_used _ _ _ _ hsw]
  refine wpAny_bind (wpAny_standAt (wpAny_bind ?_))
  show wpAny _ X.A (do let _ ← comprehension (.ListComp elt [⟨tg, iter, ifs, 0⟩] scope pos) scope X.env (firstIterPos [⟨tg, iter, ifs, 0⟩] pos) (newList []) false (eval iter X.env) (some (assign (.Name x pos') X.env))) _ _ s
  refine wpAny_bind (wpAny_mono (comp_core (use := some (assign (.Name x pos') X.env)) (QQ := fun _ s' => SP X pins D .next s') hc S hi hg ht he I h (fun Dl C H' s' m I' q hm fc => ?_) hs) (fun _ s' hq => wpAny_pure (wpAny_pure hq)) fun _ _ e => e)
  show wpAny _ X.A (assign (.Name x pos') X.env (.ref Dl)) _ _ _
  obtain ⟨q1, q2, q3, q4, q5, q6⟩ := fc
  refine wpAny_assign_Name (store_ok2 (v := .ref Dl) I' hN hi' (.inl hx) rfl (fun s2 I2 ⟨a, hsb, ha⟩ => ?_) (.inr hx))
  have hne : C ≠ a := by
    rcases ha with rfl | ha
    · exact q2
    · exact fun z => q5 x a ha z.symm
  refine ⟨m, hm.sameBut hsb hne, fun h' hsb2 => ?_⟩
  exact ⟨_, H', I2.turned (t' := s2.toks) (fun b o hb e => hsb2.extBut b o hb e) q1 q2 q4 q5 q6, q⟩
end
end L2

set_option Elab.async false
set_option linter.all false
set_option maxRecDepth 100000
set_option maxHeartbeats 4000000
namespace L2
open PySem PySem.Spec PyProof.Rows PySem.W PySem.Calls

/-! ### texts: the signs one by one -/
def Its (z : Str) : It := ⟨fun i _ => i < z.length, fun i H x H' => H' = H ∧ ∃ c, z.cps.toList[i]? = some c ∧ x = .str ⟨#[c]⟩, fun i _ => z.length ≤ i⟩
theorem turn_str {P : Program} {w : World} {K : Frag} {tg : Expr} {it : Addr} {z : Str} {ty : String} {t : Tok} (hty : ty = "str_ascii_iterator" ∨ ty = "str_iterator") : Turn P w K tg (Its z) [it] it (fun i h => h.IsStrIter it ty z t i) where
  mem := by simp
  obj := fun i h st b hb => by
    have e : b = it := by simpa using hb
    subst e
    obtain ⟨o, e, c, d⟩ := st
    exact ⟨o, e, fun v z => by rw [d] at z; cases z⟩
  keep := fun i h h' st k => let ⟨o, ho, r⟩ := st; ⟨o, k it (by simp) o ho, r⟩
  item := by
    intro X hP hw hK hc i pins s σ H E I hf st hg
    subst hP hw hK
    obtain ⟨f0, f1, f2, f3, f4, f5⟩ := hf it (by simp)
    have hg : i < z.cps.size := hg
    have key : ∀ h', h'.IsStrIter it ty z t (i + 1) → Heap.SameBut it s.heap h' → ∃ u, some (Value.str ⟨#[z.cps[i]]⟩ s.toks) = some u ∧
        wpAny (model X.prog X.w) X.A (letOwnedTupleGo tg (.ref it) u) (fun _ s2 => ∃ x H', Inv X pins σ H' s2 ∧ RelV x u ∧ (Its z).yld i H x H' ∧ s2.heap.IsStrIter it ty z t (i + 1) ∧ ∀ b ∈ [it], H' b = none) E { s with heap := h', toks := s.toks + 1 } := fun h' st' sb => by
      have I1 : Inv X pins σ H { s with heap := h', toks := s.toks + 1 } := I.turned (fun b o hb e => (sb.2 b hb).trans e) f0 f1 f3 f4 f5
      obtain ⟨o, e, c, d⟩ := id st'
      refine ⟨_, rfl, go_of (s := { s with heap := h', toks := s.toks + 1 }) e c d (by rcases hty with rfl | rfl <;> decide) ⟨.str ⟨#[z.cps[i]]⟩, H, I1, ⟨_, rfl⟩, ⟨rfl, z.cps[i], by simp [hg], rfl⟩, st', fun b hb => (hf b hb).1⟩⟩
    rcases hty with rfl | rfl
    · exact wpAny_pyNext_ascii_item st (c := z.cps[i]) (by simp [hg]) key
    · exact wpAny_pyNext_wide_item st (c := z.cps[i]) (by simp [hg]) key
  done := by
    intro X hP hw hK hc i pins s σ H E I hf st hg
    subst hP hw hK
    obtain ⟨f0, f1, f2, f3, f4, f5⟩ := hf it (by simp)
    have hg : z.cps.size ≤ i := hg
    rcases hty with rfl | rfl
    · exact wpAny_pyNext_ascii_end (I.ok.hd hc) st (by simp [hg]) fun h' eb => ⟨rfl, I.turned (t' := s.toks) (fun b o hb e => eb b o hb e) f0 f1 f3 f4 f5⟩
    · exact wpAny_pyNext_wide_end (I.ok.hd hc) st (by simp [hg]) fun h' eb => ⟨rfl, I.turned (t' := s.toks) (fun b o hb e => eb b o hb e) f0 f1 f3 f4 f5⟩
  self := fun _ _ _ _ _ st h => by
    rcases hty with rfl | rfl
    · exact wpAny_pyIter_striter_ascii st h
    · exact wpAny_pyIter_striter_wide st h
section
variable {X : Cx} {tg : Expr}
def iStr (tl : TE) : TI := fun σ H R => tl σ H fun x H1 => ∃ z, x = .str z ∧ R (Its z) H1
theorem pi_str {l : Expr} {tl : TE} (hl : PE X l tl) : PI X tg l (iStr tl) := by
  intro pins s σ H R I h
  refine thn (hl pins s σ H _ I h) fun v s1 ⟨x, H1, I1, r1, q1⟩ => ?_
  obtain ⟨z, e, q⟩ := q1
  subst e
  obtain ⟨t, rfl⟩ := r1
  refine wpAny_pyIter_strU ?_
  refine ⟨s1.heap.objs.size, [s1.heap.objs.size], _, _, H1, rfl, I1.kept (t' := s1.toks) fun b o e => Heap.get?_push_of_some _ e, turn_str (ty := strIterType z) (t := t) (by unfold strIterType; split <;> simp), ⟨_, Heap.get?_push_size _ rfl, rfl, rfl⟩, fun b hb => ?_, q⟩
  have e : b = s1.heap.objs.size := by simpa using hb
  subst e
  exact I1.fpOk (Nat.le_refl _) (I1.hok.fresh (Nat.le_refl _))
end
/-! ### a comprehension, by a word: Pv i ys σ H, ys the items so far -/
theorem comp_by {J : It} {n : Nat} {ls : List Str} {js : List Nat} {g : TG} {tt : TT} {te : TE} {σ : St} {H1 : Hp} {D : Addr} {Q : VK} (Pv : Nat → List V → St → Hp → Prop)
    (h0 : Pv 0 [] (capσ ls js σ) (upd H1 D (.lst []))) (hgo : ∀ i ys σ H, i < n → Pv i ys σ H → J.go i H) (hst : ∀ ys σ H, Pv n ys σ H → J.stop n H)
    (hs : ∀ i ys σ H x H2, i < n → Pv i ys σ H → J.yld i H x H2 → g x σ H2 fun σ2 H3 => tt σ2 H3 fun b H4 => if b = true then te σ2 H4 fun y H5 => H5 D = some (.lst ys) ∧ ys.length < sizeLine ∧ Pv (i + 1) (ys ++ [y]) σ2 (upd H5 D (.lst (ys ++ [y]))) else Pv (i + 1) ys σ2 H4)
    (hd : ∀ ys σ H, Pv n ys σ H → Q (.ref D) H) :
    CompW J ls js g tt te σ H1 D Q := by
  refine ⟨fun i m ys σ H => m = n - i ∧ i ≤ n ∧ Pv i ys σ H, ⟨n, by simp, Nat.zero_le _, h0⟩, ?_⟩
  rintro i m ys σ H ⟨rfl, hi, p⟩
  by_cases hlt : i < n
  · exact .inr ⟨hgo i ys σ H hlt p, Pv (i + 1), fun ys' σ2 H2 p' => ⟨n - (i + 1), by omega, rfl, hlt, p'⟩, fun x H2 y => hs i ys σ H x H2 hlt p y⟩
  · have e : i = n := by omega
    subst e
    exact .inl ⟨hst ys σ H p, hd ys σ H p⟩
theorem comp_list {K : Frag} {a : Addr} {xs : List V} {ls : List Str} {js : List Nat} {g : TG} {tt : TT} {te : TE} {σ : St} {H1 : Hp} {D : Addr} {Q : VK} (Pv : Nat → List V → St → Hp → Prop)
    (h0 : Pv 0 [] (capσ ls js σ) (upd H1 D (.lst []))) (hl : ∀ i ys σ H, i ≤ xs.length → Pv i ys σ H → SqL K H a xs)
    (hs : ∀ i x ys σ H, xs[i]? = some x → Pv i ys σ H → g x σ H fun σ2 H3 => tt σ2 H3 fun b H4 => if b = true then te σ2 H4 fun y H5 => H5 D = some (.lst ys) ∧ ys.length < sizeLine ∧ Pv (i + 1) (ys ++ [y]) σ2 (upd H5 D (.lst (ys ++ [y]))) else Pv (i + 1) ys σ2 H4)
    (hd : ∀ ys σ H, Pv xs.length ys σ H → Q (.ref D) H) :
    CompW (Itl K a) ls js g tt te σ H1 D Q :=
  comp_by (n := xs.length) Pv h0 (fun i ys σ H hi p => ⟨xs, xs[i], hl i ys σ H (Nat.le_of_lt hi) p, by simp [hi]⟩) (fun ys σ H p => ⟨xs, hl _ ys σ H (Nat.le_refl _) p, Nat.le_refl _⟩)
    (fun i ys σ H x H2 hi p y => by
      obtain ⟨e, y⟩ := y
      subst e
      exact hs i x ys σ _ (y xs (hl i ys σ _ (Nat.le_of_lt hi) p)) p) hd
theorem comp_range {lo : Int} {n : Nat} {ls : List Str} {js : List Nat} {g : TG} {tt : TT} {te : TE} {σ : St} {H1 : Hp} {D : Addr} {Q : VK} (Pv : Nat → List V → St → Hp → Prop)
    (h0 : Pv 0 [] (capσ ls js σ) (upd H1 D (.lst [])))
    (hs : ∀ i ys σ H, i < n → Pv i ys σ H → g (.int (lo + i)) σ H fun σ2 H3 => tt σ2 H3 fun b H4 => if b = true then te σ2 H4 fun y H5 => H5 D = some (.lst ys) ∧ ys.length < sizeLine ∧ Pv (i + 1) (ys ++ [y]) σ2 (upd H5 D (.lst (ys ++ [y]))) else Pv (i + 1) ys σ2 H4)
    (hd : ∀ ys σ H, Pv n ys σ H → Q (.ref D) H) :
    CompW (Itr lo n) ls js g tt te σ H1 D Q :=
  comp_by (n := n) Pv h0 (fun i ys σ H hi p => hi) (fun ys σ H p => Nat.le_refl _)
    (fun i ys σ H x H2 hi p y => by
      obtain ⟨e, y⟩ := y
      subst e y
      exact hs i ys σ _ hi p) hd
theorem comp_str {z : Str} {ls : List Str} {js : List Nat} {g : TG} {tt : TT} {te : TE} {σ : St} {H1 : Hp} {D : Addr} {Q : VK} (Pv : Nat → List V → St → Hp → Prop)
    (h0 : Pv 0 [] (capσ ls js σ) (upd H1 D (.lst [])))
    (hs : ∀ i c ys σ H, z.cps.toList[i]? = some c → Pv i ys σ H → g (.str ⟨#[c]⟩) σ H fun σ2 H3 => tt σ2 H3 fun b H4 => if b = true then te σ2 H4 fun y H5 => H5 D = some (.lst ys) ∧ ys.length < sizeLine ∧ Pv (i + 1) (ys ++ [y]) σ2 (upd H5 D (.lst (ys ++ [y]))) else Pv (i + 1) ys σ2 H4)
    (hd : ∀ ys σ H, Pv z.length ys σ H → Q (.ref D) H) :
    CompW (Its z) ls js g tt te σ H1 D Q :=
  comp_by (n := z.length) Pv h0 (fun i ys σ H hi p => hi) (fun ys σ H p => Nat.le_refl _)
    (fun i ys σ H x H2 hi p y => by
      obtain ⟨e, c, hc, ex⟩ := y
      subst e ex
      exact hs i c ys σ _ hc p) hd

/-! ### texts: slices, comparisons, the built-ins all and any -/
/-- the signs of z[lo:hi] -/
theorem slice_cps (z : Str) (lo hi : Option Int) : (Txt.slice z lo hi).cps.toList = (z.cps.toList.drop (HT.sIx z.length 0 lo)).take (HT.sIx z.length z.length hi - HT.sIx z.length 0 lo) := by
  have hle0 := HT.sIx_le z.length 0 (Nat.zero_le _) lo
  have hle1 := HT.sIx_le z.length z.length (Nat.le_refl _) hi
  have ix : Builtin.Str.strSliceIndices lo hi 1 z.length = (List.range (HT.sIx z.length z.length hi - HT.sIx z.length 0 lo)).map (HT.sIx z.length 0 lo + ·) := by
    rw [← sliceRange_one]
    have pos : (1 : Int) > 0 := by decide
    cases lo with
    | none =>
      cases hi with
      | none => rfl
      | some j =>
        simp only [Builtin.Str.strSliceIndices, HT.sIx, pos, if_true]
        congr 1
        by_cases h : j < 0
        · simp only [h, if_true]; omega
        · simp only [h, if_false]; omega
    | some i =>
      have e1 : max 0 (min (if i < 0 then i + (z.length : Int) else i) (z.length : Int)) = ((HT.sIx z.length 0 (some i) : Nat) : Int) := by
        simp only [HT.sIx]
        by_cases h : i < 0
        · simp only [h, if_true]; omega
        · simp only [h, if_false]; omega
      cases hi with
      | none =>
        simp only [Builtin.Str.strSliceIndices, pos, if_true]
        rw [e1]
        rfl
      | some j =>
        have e2 : max 0 (min (if j < 0 then j + (z.length : Int) else j) (z.length : Int)) = ((HT.sIx z.length z.length (some j) : Nat) : Int) := by
          simp only [HT.sIx]
          by_cases h : j < 0
          · simp only [h, if_true]; omega
          · simp only [h, if_false]; omega
        simp only [Builtin.Str.strSliceIndices, pos, if_true]
        rw [e1, e2]
  have hp := pick_run z.cps (HT.sIx z.length 0 lo) (HT.sIx z.length z.length hi - HT.sIx z.length 0 lo)
  unfold Txt.slice
  rw [ix]
  split
  · rename_i h
    simp only [List.length_map, List.length_range, beq_self_eq_true, Bool.true_and, beq_iff_eq] at h
    have h0 : HT.sIx z.length 0 lo = 0 := by omega
    have h1 : HT.sIx z.length z.length hi = z.length := by omega
    rw [h0, h1, List.drop_zero, Nat.sub_zero, List.take_of_length_le (by simp [Str.length])]
  · rw [← hp]
theorem slice_len (z : Str) (lo hi : Option Int) : (Txt.slice z lo hi).length ≤ z.length := Txt.slice_le z lo hi
section
variable {X : Cx}
def rSlS : V → Option Int → Option Int → Hp → VK → Prop := fun x lo hi H Q => ∃ z, x = .str z ∧ z.length ≤ sizeLine ∧ Q (.str (Txt.slice z lo hi)) H
theorem sl_str : SlR X rSlS := by
  intro pins s σ H x v vl vu lo hi sl Q I rx hs pl pu h
  obtain ⟨z, rfl, hz, q⟩ := h
  obtain ⟨t, rfl⟩ := rx
  refine ⟨"str", _, F.slot_str_getitem.lookup, typeIs_str _ _ _, ?_⟩
  have go : ∀ l u : Option (Int × Tok), vl = partValue l → vu = partValue u → l.map (·.1) = lo → u.map (·.1) = hi → wpAny (model X.prog X.w) X.A (getItem (.str z t) (.ref sl)) (EP X pins σ Q) X.xe s := by
    rintro l u rfl rfl rfl rfl
    obtain ⟨o, h1, h2, h3⟩ := hs
    refine wpAny_getItem_str_slice (l := l) (u := u) (st := none) ⟨o, h1, h2, h3⟩ rfl ?_
    exact post_val_or_str ⟨Nat.le_trans (Txt.slice_le z _ _) hz, fun t' k => ⟨.str (Txt.slice z (l.map (·.1)) (u.map (·.1))), H, I.tok _, ⟨_, rfl⟩, q⟩⟩
  cases pl with
  | none =>
    cases pu with
    | none => exact go none none rfl rfl rfl rfl
    | int j tj => exact go none (some (j, tj)) rfl rfl rfl rfl
  | int i ti =>
    cases pu with
    | none => exact go (some (i, ti)) none rfl rfl rfl rfl
    | int j tj => exact go (some (i, ti)) (some (j, tj)) rfl rfl rfl rfl
theorem op_le_str : OpR X (compareOp .LtE) (fun x y H Q => ∃ i j, x = .str i ∧ y = .str j ∧ Q (.bl (!decide (j.cps.toList < i.cps.toList))) H) := by
  intro pins s σ H x y v u Q I rx ry h
  obtain ⟨i, j, rfl, rfl, q⟩ := h
  obtain ⟨t, rfl⟩ := rx
  obtain ⟨t', rfl⟩ := ry
  exact P.le_str (fin_bl I q rfl)
theorem vals_bl {bs : List Bool} {us : List Value} (r : Vals (bs.map V.bl) us) (i : Nat) (v : Value) (h : us[i]? = some v) : v = .bool (bs.getD i false) := by
  induction bs generalizing us i with
  | nil => cases r; simp at h
  | cons b r' ih =>
    cases r with
    | cons r0 rr =>
      cases i with
      | zero =>
        have h0 : some _ = some v := h
        cases h0
        exact r0
      | succ i => simpa using ih rr i (by simpa using h)
theorem all_range (bs : List Bool) : (List.range bs.length).all (fun i => bs.getD i false) = bs.all id := by
  rw [Bool.eq_iff_iff, List.all_eq_true, List.all_eq_true]
  constructor
  · intro h b hb
    obtain ⟨i, hi, rfl⟩ := List.mem_iff_getElem.mp hb
    have := h i (by simpa using hi)
    simpa [hi] using this
  · intro h i hi
    have hi : i < bs.length := by simpa using hi
    simpa [hi] using h bs[i] (List.getElem_mem hi)
def rAll (K : Frag) (f : List Bool → Bool) : List V → Hp → VK → Prop := fun xs H Q => ∃ a bs, xs = [.ref a] ∧ SqL K H a (bs.map V.bl) ∧ Q (.bl (f bs)) H
theorem call_all (hc : X.calm = true) : CallR X (.builtin "all") (rAll X.K fun bs => bs.all id) := by
  intro pins s σ H xs us Q I r h
  obtain ⟨a, bs, rfl, hq, q⟩ := h
  cases r with
  | cons r rr =>
    cases rr
    cases r
    obtain ⟨its, rv, p, hz⟩ := I.list hq
    have hl := rv.length
    rw [List.length_map] at hl
    refine call_all_walk (wpAny_pyIter_list p.isList ?_)
    have hne : a ≠ s.heap.objs.size := by
      obtain ⟨o, n, e, _⟩ := p
      exact Nat.ne_of_lt (Heap.lt_size e)
    refine ⟨s.heap.objs.size, _, _, _, _, _, fun i => bs.getD i false, rfl, Walks.list (A := X.A.in1) (show X.A.in1.handled = none from I.ok.hd hc) _ a hne its.toArray, ⟨⟨_, Heap.get?_push_size _ rfl, rfl, rfl⟩, p.isList.at fun o e => Heap.get?_push_of_some _ e⟩, fun i v s1 Q1 E1 hv q1 => ?_, fun h' tk hk => ?_⟩
    · have hv := vals_bl rv i v (by simpa using hv)
      subst hv
      exact wpAny_truthy_bool q1
    · rw [List.size_toArray, ← hl, all_range]
      refine ⟨.bl (bs.all id), H, I.kept fun b o e => hk b o (fun z => ?_) (Heap.get?_push_of_some _ e), rfl, q⟩
      have z : b = s.heap.objs.size := by simpa using z
      exact absurd (z ▸ Heap.lt_size e) (Nat.lt_irrefl _)
/-- isinstance(x, c), c a built-in class or a class of the text -/
def clsOf : V → Option Value
  | .ty n => some (.type n)
  | .ref C => some (.ref C)
  | _ => none
theorem clsOf_rel {c : V} {cv u : Value} (h : clsOf c = some cv) (r : RelV c u) : u = cv := by
  cases c <;> first
    | (cases h; done)
    | (cases h; exact r)
inductive rIsi (K : Frag) (xs : List V) (H : Hp) (Q : VK) : Prop
  | mk (x : _) (c : _) (t : _) (b : _) (cv : _) (_ : xs = [x, c]) (_ : clsOf c = some cv) (_ : TyOf K H x t) (_ : kitOne K t cv = some b) (_ : Q (.bl b) H) : rIsi K xs H Q
theorem call_isi : CallR X (.builtin "isinstance") (rIsi X.K) := by
  intro pins s σ H xs us Q I r h
  obtain ⟨x, c, t, b, cv, rfl, rc, ty, hk, q⟩ := h
  cases r with
  | cons r1 rr =>
    cases rr with
    | cons r2 rr =>
      cases rr
      cases clsOf_rel rc r2
      exact isinst_ok I r1 ty hk fun tk => ⟨.bl b, H, I.tok _, rfl, q⟩
end

/-! ### a def whose exceptions are told -/
section
variable {P : Program} {w : World} {K : Frag} {mg : Str → Option Value} {base : Heap}
abbrev cxF (P : Program) (w : World) (K : Frag) (mg : Str → Option Value) (base : Heap) (cm : Bool) (N : List Str) (qual : Str) (scope : Scope) (f : Addr) (cd : Value) (A : Around) (outer : List Env) (s : Shared) (H : Hp) (E : XK) : Cx :=
  cxOf (CXF P w) cm P w K mg base N qual scope f cd A outer s H E
/-- THE RULE for a def -/
theorem Fun.okX {cm : Bool} {x qual : Str} {st : Stmt} {f : Addr} {fd : FuncData} {N ps : List Str} {k : Nat} {sp : Sp} (F : Fun K x qual st f fd) (S : FnScope N ps (defScope st)) (len : ∀ vs H Q E, sp vs H Q E → vs.length = ps.length)
    (hbody : ∀ (cdv : Value) (A : Around) (outer : List Env) (s : Shared) (H : Hp) (vs : List V) (Q : VK) (E : XK), Room cm k (A.deeper (envOfC qual (defScope st) s.heap.objs.size f cdv)) → sp vs H Q E →
      XOk (cxF P w K mg base cm N qual (defScope st) f cdv A outer s H E) (fun _ => E) →
      ∃ t, PSs (cxF P w K mg base cm N qual (defScope st) f cdv A outer s H E) (defBody st) t ∧ t { nx := fun _ H' => Q .non H', rt := Q } (start N vs) H) : FnOk P w K mg base (CXF P w) cm (k + 1) f fd ps sp := by
  obtain ⟨oc, od, kV, doc, pm, an, cdv, ct, osl, rfl, lk, hcd⟩ := F.ex
  exact fn_of lk hcd S len fun A outer s H vs Q E hr hsp => hbody cdv A outer s H vs Q E hr hsp xok_def
end
end L2

set_option Elab.async false
set_option linter.all false
set_option maxRecDepth 100000
set_option maxHeartbeats 4000000
namespace L2
open PySem PySem.Spec PyProof.Rows PySem.W PySem.Calls

/-- a def of the text that keeps its promise -/
def IsDef (P : Program) (w : World) (K : Frag) (mg : Str → Option Value) (base : Heap) (cm : Bool) (k : Nat) (x : Str) (ps : List Str) (sp : Sp) : Prop :=
  ∃ f fd, FnOk P w K mg base (CXF P w) cm k f fd ps sp ∧ mg x = some (.ref f) ∧ keepIn K (.ref f) = true ∧ Binds K fd ps []
theorem isDef_mk {P : Program} {w : World} {K : Frag} {mg : Str → Option Value} {base : Heap} {cm : Bool} {k : Nat} {x y : Str} {ps : List Str} {sp : Sp} {st : Stmt} {f : Addr} {fd : FuncData} (F : Fun K x y st f fd) (hm : mg x = some (.ref f)) (b : Binds K fd ps [])
    (ok : FnOk P w K mg base (CXF P w) cm k f fd ps sp) : IsDef P w K mg base cm k x ps sp := ⟨f, fd, ok, hm, F.kp, b⟩
section
variable {X : Cx} {cm : Bool} {k : Nat} {x : Str} {ps : List Str} {sp : Sp} {E : St → XK} {e : Expr} {es : List Expr} {t : TA} {p pos : Pos}
/-- f(..) of a def of the text -/
theorem pe_def (D : IsDef X.prog X.w X.K X.mg X.base cm k x ps sp) (hr : Room cm k X.A) (hx : Passes (CXF X.prog X.w) X E) (ha : PA X (e :: es) t) (hg : Gl X x := by rfl) (hdb : (x == ("__debug__" : Str)) = false := by decide)
    (he : starEach (e :: es) X.env = (false, eval e X.env) :: starEach es X.env := by rfl) (hpl : (backTo pos (starEach es X.env)).any (·.1) = false := by rfl) : PE X (.Call (.Name x p) (e :: es) [] pos) (tCall sp [] E t) := by
  obtain ⟨f, fd, ok, hm, hk, hb⟩ := D
  exact pe_call ok hr hg hm hk hb .nil hx ha hdb he hpl
/-- a constant of the module -/
theorem pe_con' {v : V} (h : ∃ u, X.mg x = some u ∧ RelV v u) (hg : Gl X x := by rfl) (hd : (x == ("__debug__" : Str)) = false := by decide) : PE X (.Name x pos) (tC v) := by
  obtain ⟨u, h1, h2⟩ := h
  exact pe_glob hg h1 h2 hd
end
theorem tYes_if {σ : St} {H : Hp} {A B : Hp → Prop} (h : A H) : tYes σ H (fun b H4 => if b = true then A H4 else B H4) := by
  show if true = true then A H else B H
  exact iteT h
theorem gN_yes {i : Nat} {x : V} {σ : St} {H : Hp} {A B : St → Hp → Prop} (h : A (σ.set i (some x)) H) : gName i x σ H (fun σ2 H3 => tYes σ2 H3 (fun b H4 => if b = true then A σ2 H4 else B σ2 H4)) := by
  show if true = true then A (σ.set i (some x)) H else B (σ.set i (some x)) H
  exact iteT h
theorem le_line {n : Nat} (h : n ≤ 100000) : n ≤ sizeLine := Nat.le_trans h (by decide)
theorem lt_line {n : Nat} (h : n ≤ 100000) : n < sizeLine := Nat.lt_of_le_of_lt h (by decide)
/-- two statements with a word between them -/
def tCut (t u : TS) : TS := fun D σ H => ∃ Pm : St → Hp → Prop, t { D with nx := Pm } σ H ∧ ∀ σ' H', Pm σ' H' → u D σ' H'
theorem pss_cut {X : Cx} {st : Stmt} {rest : List Stmt} {t u : TS} (h1 : PS X st t) (h2 : PSs X rest u) : PSs X (st :: rest) (tCut t u) := by
  intro pins s σ H D I h
  obtain ⟨Pm, ht, hu⟩ := h
  refine wpAny_execs_cons (thn (h1 pins s σ H { D with nx := Pm } I ht) fun f s1 q => ?_)
  cases f with
  | next => obtain ⟨σ', H', I', p⟩ := q; exact h2 pins s1 σ' H' D I' (hu σ' H' p)
  | brk => exact q
  | cont => exact q
  | ret v => exact q
/-- all that stands stays -/
theorem Same.upd {H : Hp} {a : Addr} {o : HO} (h : H a = none) : Same H (upd H a o) := fun b u e => by rw [upd_ne (ne_of_none e h)]; exact e
theorem Same.upd2 {H H' : Hp} {a : Addr} {o : HO} (s : Same H H') (h : H a = none) : Same H (L2.upd H' a o) := fun b u e => by rw [upd_ne (ne_of_none e h)]; exact s b u e
end L2
namespace QF
open PySem L2
theorem on1 {P : List Value → Prop} (h : ∀ a, P [a]) : ∀ us : List Value, us.length = 1 → P us
  | [a], _ => h a
theorem on2 {P : List Value → Prop} (h : ∀ a b, P [a, b]) : ∀ us : List Value, us.length = 2 → P us
  | [a, b], _ => h a b
theorem on3 {P : List Value → Prop} (h : ∀ a b c, P [a, b, c]) : ∀ us : List Value, us.length = 3 → P us
  | [a, b, c], _ => h a b c
theorem on4 {P : List Value → Prop} (h : ∀ a b c d, P [a, b, c, d]) : ∀ us : List Value, us.length = 4 → P us
  | [a, b, c, d], _ => h a b c d
theorem on5 {P : List Value → Prop} (h : ∀ a b c d e, P [a, b, c, d, e]) : ∀ us : List Value, us.length = 5 → P us
  | [a, b, c, d, e], _ => h a b c d e
theorem on6 {P : List Value → Prop} (h : ∀ a b c d e f, P [a, b, c, d, e, f]) : ∀ us : List Value, us.length = 6 → P us
  | [a, b, c, d, e, f], _ => h a b c d e f
end QF

set_option Elab.async false
set_option linter.all false
set_option maxRecDepth 100000
set_option maxHeartbeats 4000000
namespace L2
open PySem PySem.Spec PyProof.Rows PySem.W PySem.Calls

/-! ### arguments that are no *xs -/
def notStar : Expr → Bool
  | .Starred _ _ => false
  | _ => true
theorem starEach_plain {e : Expr} {es : List Expr} {env : Env} (h : notStar e = true) : starEach (e :: es) env = (false, eval e env) :: starEach es env := by
  cases e <;> first | rfl | cases h
theorem pa_c {X : Cx} {e : Expr} {es : List Expr} {te : TE} {t : TA} (ha : PE X e te) (hr : PA X es t) (hn : notStar e = true := by rfl) : PA X (e :: es) (tCons te t) := pa_cons ha hr (starEach_plain hn)
/-! ### a def or method whose parameters may have defaults -/
structure FunD (K : Frag) (x qual : Str) (st : Stmt) (f : Addr) (fd : FuncData) : Prop where
  ex : ∃ (oc : Value) (od : Option Addr) (dV kV doc pm : Value) (an : Option Addr) (cdv ct : Value) (osl : Array (Option Value)),
    fd = fnOf x qual (defArgs st) (defBody st) (defScope st) dV kV doc pm an cdv ct ∧ K.lookup f = some ⟨oc, od, .func fd, osl⟩ ∧ codeIn K cdv qual = true
  kp : keepIn K (.ref f) = true
theorem funD_mk {K : Frag} {x qual : Str} {st : Stmt} {f : Addr} {oc : Value} {od an : Option Addr} {osl : Array (Option Value)} {dV kV doc pm cdv ct : Value} (l : K.lookup f = some ⟨oc, od, .func (fnOf x qual (defArgs st) (defBody st) (defScope st) dV kV doc pm an cdv ct), osl⟩)
    (c : codeIn K cdv qual = true) (k : keepIn K (.ref f) = true) : FunD K x qual st f (fnOf x qual (defArgs st) (defBody st) (defScope st) dV kV doc pm an cdv ct) := ⟨⟨oc, od, dV, kV, doc, pm, an, cdv, ct, osl, rfl, l, c⟩, k⟩
section
variable {P : Program} {w : World} {K : Frag} {mg : Str → Option Value} {base : Heap}
theorem FunD.okX {cm : Bool} {x qual : Str} {st : Stmt} {f : Addr} {fd : FuncData} {N ps : List Str} {k : Nat} {sp : Sp} (F : FunD K x qual st f fd) (S : FnScope N ps (defScope st)) (len : ∀ vs H Q E, sp vs H Q E → vs.length = ps.length)
    (hbody : ∀ (cdv : Value) (A : Around) (outer : List Env) (s : Shared) (H : Hp) (vs : List V) (Q : VK) (E : XK), Room cm k (A.deeper (envOfC qual (defScope st) s.heap.objs.size f cdv)) → sp vs H Q E →
      XOk (cxF P w K mg base cm N qual (defScope st) f cdv A outer s H E) (fun _ => E) →
      ∃ t, PSs (cxF P w K mg base cm N qual (defScope st) f cdv A outer s H E) (defBody st) t ∧ t { nx := fun _ H' => Q .non H', rt := Q } (start N vs) H) : FnOk P w K mg base (CXF P w) cm (k + 1) f fd ps sp := by
  obtain ⟨oc, od, dV, kV, doc, pm, an, cdv, ct, osl, rfl, lk, hcd⟩ := F.ex
  exact fn_of lk hcd S len fun A outer s H vs Q E hr hsp => hbody cdv A outer s H vs Q E hr hsp xok_def
end

/-! ### classes and methods of the text -/
/-- a method that keeps its promise -/
def IsMeth (P : Program) (w : World) (K : Frag) (mg : Str → Option Value) (base : Heap) (cm : Bool) (k : Nat) (C : Addr) (m : Str) (ps : List Str) (sp : Sp) : Prop :=
  ∃ f fd, FnOk P w K mg base (CXF P w) cm k f fd ps sp ∧ Meth K C m f ∧ Binds K fd ps [] ∧ Cls K C
/-- a class that is made: its __init__ keeps its promise; dvs: the defaults that fill up -/
def IsNew (P : Program) (w : World) (K : Frag) (mg : Str → Option Value) (base : Heap) (cm : Bool) (k : Nat) (x : Str) (C : Addr) (ps : List Str) (dvs : List V) (sp : Sp) : Prop :=
  ∃ f fd ds, FnOk P w K mg base (CXF P w) cm k f fd ps sp ∧ Mk K C f ∧ mg x = some (.ref C) ∧ Binds K fd ps ds ∧ Vals dvs ds
theorem isNew_mk {P : Program} {w : World} {K : Frag} {mg : Str → Option Value} {base : Heap} {cm : Bool} {k : Nat} {x : Str} {C f : Addr} {fd : FuncData} {ps : List Str} {dvs : List V} {ds : List Value} {sp : Sp} (h1 : FnOk P w K mg base (CXF P w) cm k f fd ps sp) (h2 : Mk K C f) (h3 : mg x = some (.ref C)) (h4 : Binds K fd ps ds) (h5 : Vals dvs ds) : IsNew P w K mg base cm k x C ps dvs sp := ⟨f, fd, ds, h1, h2, h3, h4, h5⟩
theorem isMeth_mk {P : Program} {w : World} {K : Frag} {mg : Str → Option Value} {base : Heap} {cm : Bool} {k : Nat} {m : Str} {C f : Addr} {fd : FuncData} {ps : List Str} {sp : Sp} (h1 : FnOk P w K mg base (CXF P w) cm k f fd ps sp) (h2 : Meth K C m f) (h3 : Binds K fd ps []) (h4 : Cls K C) : IsMeth P w K mg base cm k C m ps sp := ⟨f, fd, h1, h2, h3, h4⟩
section
variable {X : Cx} {cm : Bool} {k : Nat} {x m : Str} {ps : List Str} {sp : Sp} {E : St → XK} {e o : Expr} {es : List Expr} {t : TA} {to : TE} {p pos apos : Pos} {C : Addr} {dvs : List V}
theorem pe_newD (D : IsNew X.prog X.w X.K X.mg X.base cm k x C ps dvs sp) (hr : Room cm (k + 1) X.A) (hx : Passes (CXF X.prog X.w) X E) (ha : PA X (e :: es) t) (hg : Gl X x := by rfl) (hdb : (x == ("__debug__" : Str)) = false := by decide)
    (he : starEach (e :: es) X.env = (false, eval e X.env) :: starEach es X.env := by rfl) (hpl : (backTo pos (starEach es X.env)).any (·.1) = false := by rfl) : PE X (.Call (.Name x p) (e :: es) [] pos) (tMake C sp dvs E t) := by
  obtain ⟨f, fd, ds, ok, M, hm, hb, hd⟩ := D
  exact pe_make M ok hr hg hm hb hd hx ha hdb he hpl
theorem pe_methD {pl : Sem Bool} (ho : PE X o to) (D : IsMeth X.prog X.w X.K X.mg X.base cm k C m ps sp) (hr : Room cm k X.A) (hx : Passes (CXF X.prog X.w) X E) (ha : PA X (e :: es) t)
    (hst : starEach (e :: es) X.env = (false, eval e X.env) :: starEach es X.env := by rfl) (hpl : (backTo pos (starEach es X.env)).any (·.1) = false := by rfl)
    (ht : eval (.Call (.Attribute o m apos) (e :: es) [] pos) X.env = (do
      let ov ← eval o X.env
      standAt apos.atName
      let (f, first) ← holding [ov] (getMethod ov m pl)
      callWith pos f first (backTo pos (starEach (e :: es) X.env)) (backToKw pos (keywordEach [] X.env))) := by rfl) : PE X (.Call (.Attribute o m apos) (e :: es) [] pos) (tMeth C m sp [] E to t) := by
  obtain ⟨f, fd, ok, hm, hb, c⟩ := D
  exact pe_meth ho c hm ok hr hb .nil hx ha hst hpl ht
end

/-! ### the rules that speak of the text, with the text told -/
section
variable {X : Cx}
theorem pi_listK (K : Frag) {tg l : Expr} {tl : TE} (hl : PE X l tl) (h : X.K = K := by rfl) : PI X tg l (iList K tl) := h ▸ pi_list hl
theorem pe_fldK (K : Frag) {e : Expr} {f : Str} {pos : Pos} {ta : TE} (he : PE X e ta) (hb : attributeBase e f X.env (eval e X.env) = eval e X.env := by rfl) (h : X.K = K := by rfl) : PE X (.Attribute e f pos) (tFld K ta f) := h ▸ pe_fld he hb
theorem ps_fldK (K : Frag) {o value : Expr} {f : Str} {pos pos' : Pos} {ta tv : TE} (ha : PE X o ta) (hv : PE X value tv) (hs : swapsWith value (some (.Attribute o f pos')) pos.line X.env = pure false := by rfl) (h : X.K = K := by rfl) : PS X (.Assign [.Attribute o f pos'] value pos) (sFld K ta tv f) := h ▸ ps_fld ha hv hs
theorem ix_listK (K : Frag) (h : X.K = K := by rfl) : IxR X (rIxL K) := h ▸ ix_list
theorem ix_tupK (K : Frag) (h : X.K = K := by rfl) : IxR X (rIxT K) := h ▸ ix_tup
theorem sl_listK (K : Frag) (h : X.K = K := by rfl) : SlR X (rSlL K) := h ▸ sl_list
inductive rLenS (K : Frag) (xs : List V) (H : Hp) (Q : VK) : Prop
  | mk (p : _) (ys : _) (_ : xs = [.ref p]) (_ : (SqL K H p ys ∨ SqT K H p ys)) (_ : Q (.int ys.length) H) : rLenS K xs H Q
theorem call_len_seqK (K : Frag) (h : X.K = K := by rfl) : CallR X (.builtin "len") (rLenS K) := by
  subst h
  intro pins s σ H xs us Q I r hq
  obtain ⟨p, ys, e, d, q⟩ := hq
  exact call_len_seq pins s σ H xs us Q I r ⟨p, ys, e, d, q⟩
inductive rListOf (K : Frag) (xs : List V) (H : Hp) (Q : VK) : Prop
  | mk (p : _) (ys : _) (_ : xs = [.ref p]) (_ : (SqL K H p ys ∨ SqT K H p ys)) (_ : ∀ l, H l = none → Q (.ref l) (upd H l (.lst ys))) : rListOf K xs H Q
theorem call_list_ofK (K : Frag) (h : X.K = K := by rfl) : CallR X (.type "list") (rListOf K) := by
  subst h
  intro pins s σ H xs us Q I r hq
  obtain ⟨p, ys, e, d, q⟩ := hq
  exact call_list_of pins s σ H xs us Q I r ⟨p, ys, e, d, q⟩
theorem call_allK (K : Frag) (hc : X.calm = true) (h : X.K = K := by rfl) : CallR X (.builtin "all") (rAll K fun bs => bs.all id) := h ▸ call_all hc
theorem call_isiK (K : Frag) (h : X.K = K := by rfl) : CallR X (.builtin "isinstance") (rIsi K) := h ▸ call_isi
theorem pg_tupK (K : Frag) {es : List Expr} {k : Nat} {t : TGs} {n : Nat} {pos : Pos} (hc : X.calm = true) (h : PGs X es t)
    (hn : (assignEach es X.env).length = n := by rfl) (hst : (assignEach es X.env).findIdx? (·.1) = none := by rfl) (hK : X.K = K := by rfl) : PG X (.Tuple es k pos) (gTup K n t) := hK ▸ pg_tup hc h hn hst
theorem pe_bmK (K : Frag) {T : String} {name : Str} {id : String} {r : V → List V → Hp → VK → Prop} {o e : Expr} {es : List Expr} {apos cpos : Pos} {to : TE} {t : TA} (pa : PlainAttrs T) (slot : Slot T name id) (hty : typeOf (.builtin id) = pure (.type "method_descriptor")) (hm : MtR X id r) (ho : PE X o to) (ha : PA X (e :: es) t)
    (hbase : attributeBase o name X.env (eval o X.env) = eval o X.env := by rfl)
    (hfew : ((backTo cpos (starEach (e :: es) X.env)).all (fun x => !x.1) && (backToKw cpos (keywordEach [] X.env)).all (fun x => x.1.isSome)
      && decide ((e :: es).length + ([] : List Keyword).length + (if ([] : List Keyword).isEmpty then 0 else 1) < 30)) = true := by rfl)
    (hline : (apos.endLine == cpos.line) = true := by rfl) (hs : starEach (e :: es) X.env = (false, eval e X.env) :: starEach es X.env := by rfl) (hplain : (backTo cpos (starEach es X.env)).any (·.1) = false := by rfl) (hK : X.K = K := by rfl) :
    PE X (.Call (.Attribute o name apos) (e :: es) [] cpos) (tBM K T r to t) := hK ▸ pe_bm pa slot hty hm ho ha hbase hfew hline hs hplain
end

/-! ### xs.count(y), xs.index(y) of flat items -/
section
variable {X : Cx}
end
end L2

set_option Elab.async false
set_option linter.all false
set_option maxRecDepth 100000
set_option maxHeartbeats 4000000
/-! what the program and the laws speak of -/
namespace QF
open PySem L2
structure TB (mg : Str → Option Value) : Prop where
  n_len : mg "len" = none
  n_range : mg "range" = none
  n_isinstance : mg "isinstance" = none
  n_int : mg "int" = none
  n_bool : mg "bool" = none
  n_str : mg "str" = none
  n_list : mg "list" = none
  n_tuple : mg "tuple" = none
  n_dict : mg "dict" = none
  n_all : mg "all" = none
  n_any : mg "any" = none
  n_min : mg "min" = none
  n_max : mg "max" = none
  n_enumerate : mg "enumerate" = none
  n_ValueError : mg "ValueError" = none
def Con (mg : Str → Option Value) (x : Str) (v : V) : Prop := ∃ u, mg x = some u ∧ RelV v u
/-! cells of the script -/
def cell (ns : List Int) (k : Int) : Int := ns.getD k.toNat 0
theorem cell_at {ns : List Int} {k : Int} (h0 : 0 ≤ k) (h : k < (ns.length : Int)) : atI (ns.map V.int) k = some (.int (cell ns k)) := by
  obtain ⟨j, rfl⟩ := Int.eq_ofNat_of_zero_le h0
  have hj : j < ns.length := by omega
  refine atI_nat ?_
  simp [cell, hj]
theorem cell_out {ns : List Int} {k : Int} (h0 : 0 ≤ k) (h : ¬ k < (ns.length : Int)) : cell ns k = 0 := by
  have hj : ns.length ≤ k.toNat := by omega
  simp [cell, hj]
/-! letters and words -/
def low (c : Nat) : Bool := decide (97 ≤ c) && decide (c ≤ 122)
def isW (z : Str) : Bool := decide (1 ≤ z.length) && decide (z.length ≤ 12) && z.cps.toList.all low
theorem lt1 (a b : Nat) : (([a] : List Nat) < [b]) ↔ a < b := by
  constructor
  · intro h
    cases h with
    | rel h => exact h
    | cons h => cases h
  · intro h; exact .rel h
theorem le_a (c : Nat) : (!decide (([c] : List Nat) < (Str.ofString "a").cps.toList)) = decide (97 ≤ c) := by
  have e : (Str.ofString "a").cps.toList = [97] := by decide +kernel
  rw [e, Bool.eq_iff_iff]
  simp only [Bool.not_eq_true', decide_eq_false_iff_not, decide_eq_true_eq, lt1]
  omega
theorem le_z (c : Nat) : (!decide ((Str.ofString "z").cps.toList < ([c] : List Nat))) = decide (c ≤ 122) := by
  have e : (Str.ofString "z").cps.toList = [122] := by decide +kernel
  rw [e, Bool.eq_iff_iff]
  simp only [Bool.not_eq_true', decide_eq_false_iff_not, decide_eq_true_eq, lt1]
  omega
theorem len_app (x y : Str) : (x ++ y).length = x.length + y.length := by
  show (x.cps ++ y.cps).size = _
  rw [Array.size_append]; rfl
/-! promises of the small defs -/
inductive sp_at (K : W.Frag) (vs : List V) (H : Hp) (Q : VK) (u3 : XK) : Prop
  | mk (a : _) (ns : _) (k : _) (_ : vs = [.ref a, .int k]) (_ : SqL K H a (ns.map V.int)) (_ : 0 ≤ k) (_ : Q (.int (cell ns k)) H) : sp_at K vs H Q u3
inductive sp_whole (vs : List V) (H : Hp) (Q : VK) (u3 : XK) : Prop
  | mk (i : _) (_ : vs = [.int i]) (_ : Q (.bl true) H) : sp_whole  vs H Q u3
inductive sp_low (vs : List V) (H : Hp) (Q : VK) (u3 : XK) : Prop
  | mk (c : Nat) (_ : vs = [.str ⟨#[c]⟩]) (_ : Q (.bl (low c)) H) : sp_low  vs H Q u3
inductive sp_word (vs : List V) (H : Hp) (Q : VK) (u3 : XK) : Prop
  | mk (z : Str) (_ : vs = [.str z]) (_ : z.length ≤ 100000) (_ : ∀ H', Same H H' → Q (.bl (isW z)) H') : sp_word  vs H Q u3
inductive sp_between (vs : List V) (H : Hp) (Q : VK) (u3 : XK) : Prop
  | mk (l n h : Int) (_ : vs = [.int l, .int n, .int h]) (_ : Q (.bl (decide (l ≤ n) && decide (n ≤ h))) H) : sp_between  vs H Q u3
def spLaw (K : W.Frag) : Sp := fun vs H Q _ => ∃ (a : Addr) (ns : List Int), vs = [.ref a] ∧ SqL K H a (ns.map V.int) ∧ ns.length ≤ 63 ∧ ∀ H', Q (.bl true) H'
/-! error classes -/
structure Er (K : W.Frag) (mg : Str → Option Value) (x : Str) (C : Addr) : Prop where
  m : mg x = some (.ref C)
  e : ErrC K C
/-! numbers of the terms -/
def inR (l n h : Int) : Bool := decide (l ≤ n) && decide (n ≤ h)
inductive sp_number (C : Addr) (vs : List V) (H : Hp) (Q : VK) (E : XK) : Prop
  | mk (nm : Str) (n l h : Int) (_ : vs = [.str nm, .int n, .int l, .int h]) (_ : nm.length ≤ 20) (_ : (0 ≤ l ∧ l ≤ 1)) (_ : (h = 100 ∨ h = 999999)) (_ : (if inR l n h = true then Q .non H else E (.ref C) none H)) : sp_number C vs H Q E
end QF

set_option Elab.async false
set_option linter.all false
set_option maxRecDepth 100000
set_option maxHeartbeats 4000000
namespace QF
open PySem L2
/-- the numbers that the program writes into its refusals -/
theorem told_int {i : Int} (h : i = 0 ∨ i = 1 ∨ i = 12 ∨ i = 40 ∨ i = 60 ∨ i = 100 ∨ i = 999999) : i.natAbs.log2 < 1920 ∧ (Str.ofString (toString i)).length ≤ 6 := by
  rcases h with rfl | rfl | rfl | rfl | rfl | rfl | rfl <;> exact ⟨by decide +kernel, by decide +kernel⟩
theorem len_empty : (Str.empty).length = 0 := by decide +kernel
theorem one_line {x : V} : [x].length ≤ sizeLine := le_line (by simp)
/-! near forms -/
def formOk (x y : Str) (p : Int) : Bool := isW x && isW y && !(x == y) && inR 0 p 999999
inductive sp_form (C : Addr) (vs : List V) (H : Hp) (Q : VK) (E : XK) : Prop
  | mk (x y : Str) (p : Int) (_ : vs = [.str x, .str y, .int p]) (_ : x.length ≤ 100000) (_ : y.length ≤ 100000) (_ : (if formOk x y p = true then ∀ H', Same H H' → Q .non H' else ∀ H', Same H H' → E (.ref C) none H')) : sp_form C vs H Q E
abbrev Form := Str × Str × Int
def trip (f : Form) : List V := [.str f.1, .str f.2.1, .int f.2.2]
def key2 (f : Form) : List Key := [.inr f.1, .inr f.2.1]
def kvOf (f : Form) : List Key × V := (key2 f, .int f.2.2)
def fOk (f : Form) : Bool := formOk f.1 f.2.1 f.2.2
def Trips (H : Hp) (xs : List V) (fs : List Form) : Prop := xs.length = fs.length ∧ ∀ (i : Nat) (f : Form), fs[i]? = some f → ∃ t, xs[i]? = some (V.ref t) ∧ H t = some (.tup (trip f))
def goodNear (fs : List Form) : Bool := decide (fs.length ≤ 60) && fs.all fOk && decide ((fs.map key2).Nodup)
def Short (fs : List Form) : Prop := fs.length ≤ 1000 ∧ ∀ f ∈ fs, f.1.length ≤ 100000 ∧ f.2.1.length ≤ 100000
theorem Trips.same {H H' : Hp} {xs : List V} {fs : List Form} (t : Trips H xs fs) (s : Same H H') : Trips H' xs fs := ⟨t.1, fun i f e => let ⟨b, h1, h2⟩ := t.2 i f e; ⟨b, h1, s _ _ h2⟩⟩
theorem Trips.nil {H : Hp} : Trips H [] [] := ⟨rfl, fun i f e => by simp at e⟩
inductive sp_prices (C : Addr) (vs : List V) (H : Hp) (Q : VK) (E : XK) : Prop
  | mk (a : Addr) (xs : List V) (fs : List Form) (_ : vs = [.ref a]) (_ : H a = some (.lst xs)) (_ : Trips H xs fs) (_ : Short fs) (_ : (if goodNear fs = true then ∀ H' d, Same H H' → H d = none → H' d = some (.dT (fs.map kvOf)) → Q (.ref d) H' else ∀ H', Same H H' → E (.ref C) none H')) : sp_prices C vs H Q E
theorem kv_keys (fs : List Form) : (fs.map kvOf).map (·.1) = fs.map key2 := by rw [List.map_map]; rfl
/-- a form that is no good makes the list no good -/
theorem bad_form {fs : List Form} {i : Nat} {f : Form} (e : fs[i]? = some f) (h : fOk f = false) : goodNear fs = false := by
  have hm : f ∈ fs := List.mem_of_getElem? e
  have : fs.all fOk = false := by
    rw [Bool.eq_false_iff]
    intro z
    rw [List.all_eq_true] at z
    rw [z f hm] at h
    cases h
  simp [goodNear, this]
theorem bad_twice {fs : List Form} {i : Nat} {f : Form} (e : fs[i]? = some f) (h : key2 f ∈ (fs.take i).map key2) : goodNear fs = false := by
  have : ¬ (fs.map key2).Nodup := fun z => by
    obtain ⟨hi, e'⟩ := List.getElem?_eq_some_iff.mp e
    have e2 : fs = fs.take i ++ f :: fs.drop (i + 1) := by
      rw [← e', List.getElem_cons_drop, List.take_append_drop]
    rw [e2, List.map_append, List.map_cons, List.nodup_append] at z
    exact z.2.2 _ h _ (List.mem_cons_self) rfl
  simp [goodNear, this]
theorem good_step {fs : List Form} {i : Nat} {f : Form} (e : fs[i]? = some f) : (fs.take (i + 1)).map kvOf = (fs.take i).map kvOf ++ [kvOf f] := by
  rw [List.take_succ, e, List.map_append]
  rfl
theorem kv_no {fs : List Form} {k : List Key} (h : valV (fs.map kvOf) k = none) : k ∉ fs.map key2 := by
  have := valV_not h
  rwa [kv_keys] at this
theorem kv_yes {fs : List Form} {k : List Key} {v : V} (h : valV (fs.map kvOf) k = some v) : k ∈ fs.map key2 := by
  have := valV_in h
  rwa [kv_keys] at this
/-! terms -/
structure TermsC (K : W.Frag) (C : Addr) : Prop where
  cl : Cls K C
  same : NoAttr K C "same"
  out : NoAttr K C "out"
  into : NoAttr K C "into"
  least : NoAttr K C "least"
  part : NoAttr K C "part"
  near : NoAttr K C "near"
  prices : NoAttr K C "prices"
/-- the numbers of terms -/
structure Nums where
  same : Int
  out : Int
  into : Int
  least : Int
  part : Int
def okNums (n : Nums) : Bool := inR 1 n.same 999999 && inR 0 n.out 999999 && inR 0 n.into 999999 && inR 1 n.least 999999 && inR 1 n.part 100
def flds (n : Nums) (l d : Addr) : List (Str × V) := [("same", .int n.same), ("out", .int n.out), ("into", .int n.into), ("least", .int n.least), ("part", .int n.part), ("near", .ref l), ("prices", .ref d)]
def flds5 (n : Nums) : List (Str × V) := [("same", .int n.same), ("out", .int n.out), ("into", .int n.into), ("least", .int n.least), ("part", .int n.part)]
def SameBut (x : Addr) (H H' : Hp) : Prop := ∀ b u, b ≠ x → H b = some u → H' b = some u
/-- terms at x -/
structure TermsAt (H : Hp) (C x : Addr) (n : Nums) (fs : List Form) (dx l d : Addr) (xs : List V) : Prop where
  ob : H x = some (.ins C dx (flds n l d))
  own : H dx = some (.own x)
  li : H l = some (.lst xs)
  tr : Trips H xs fs
  di : H d = some (.dT (fs.map kvOf))
def nearV (H : Hp) (v : V) (xs : List V) (fs : List Form) : Prop := (v = .non ∧ xs = [] ∧ fs = []) ∨ ∃ a, v = .ref a ∧ H a = some (.lst xs) ∧ Trips H xs fs
inductive sp_init (C CT CN : Addr) (vs : List V) (H : Hp) (Q : VK) (E : XK) : Prop
  | mk (x dx : Addr) (n : Nums) (nv : V) (xs : List V) (fs : List Form) (_ : vs = [.ref x, .int n.same, .int n.out, .int n.into, .int n.least, .int n.part, nv]) (_ : H x = some (.ins C dx [])) (_ : H dx = some (.own x)) (_ : nearV H nv xs fs) (_ : Short fs) (_ : (if okNums n = true then (if goodNear fs = true then ∀ H' l d, SameBut x H H' → TermsAt H' C x n fs dx l d xs → H l = none → H d = none → Q .non H' else ∀ H', SameBut x H H' → E (.ref CN) none H') else ∀ H', SameBut x H H' → E (.ref CT) none H')) : sp_init C CT CN vs H Q E
theorem put5 (n : Nums) : putF "part" (.int n.part) (putF "least" (.int n.least) (putF "into" (.int n.into) (putF "out" (.int n.out) (putF "same" (.int n.same) [])))) = flds5 n := by kernel_rfl
theorem put7 (n : Nums) (l d : Addr) : putF "prices" (.ref d) (putF "near" (.ref l) (flds5 n)) = flds n l d := by kernel_rfl
theorem near5 (n : Nums) (l : Addr) : (putF "near" (.ref l) (flds5 n)).lookup ("near" : Str) = some (V.ref l) := by kernel_rfl
theorem SameBut.refl {x : Addr} {H : Hp} : SameBut x H H := fun _ _ _ h => h
theorem SameBut.upd {x : Addr} {H H' : Hp} {o : HO} (s : SameBut x H H') : SameBut x H (upd H' x o) := fun b u n h => by rw [upd_ne n]; exact s b u n h
theorem SameBut.same {x : Addr} {H H' H2 : Hp} (s : SameBut x H H') (t : Same H' H2) : SameBut x H H2 := fun b u n h => t b u (s b u n h)
theorem SameBut.laid {x a : Addr} {H H' : Hp} {o : HO} (s : SameBut x H H') (h : H a = none) : SameBut x H (L2.upd H' a o) := fun b u n e => by rw [upd_ne (ne_of_none e h)]; exact s b u n e
theorem SameBut.free {x l : Addr} {H H' : Hp} {o : HO} (s : SameBut x H H') (hx : H' x = some o) (h : H' l = none) : H l = none := by
  cases e : H l with
  | none => rfl
  | some u =>
    have n : l ≠ x := fun z => by rw [z, hx] at h; cases h
    rw [s l u n e] at h; cases h
theorem Trips.but {x : Addr} {H H' : Hp} {xs : List V} {fs : List Form} {C dx : Addr} {gs : List (Str × V)} (t : Trips H xs fs) (s : SameBut x H H') (hx : H x = some (.ins C dx gs)) : Trips H' xs fs :=
  ⟨t.1, fun i f e => let ⟨b, h1, h2⟩ := t.2 i f e; ⟨b, h1, s _ _ (fun z => by rw [z, hx] at h2; cases h2) h2⟩⟩
/-! which refusal it was -/
def fl (j : Nat) : List V := [.bl (decide (0 = j)), .bl (decide (1 = j)), .bl (decide (2 = j)), .bl (decide (3 = j)), .bl (decide (4 = j)), .bl (decide (5 = j)), .bl (decide (6 = j)), .bl (decide (7 = j)), .bl (decide (8 = j)), .bl (decide (9 = j)), .bl (decide (10 = j)), .bl (decide (11 = j)), .bl (decide (12 = j)), .bl (decide (13 = j))]
def kinds : List Str := ["word", "book", "terms", "near", "way", "name", "year", "taken", "full", "many", "no book", "no finding", "left", "search", "another"]
def kindOf (j : Nat) : Str := kinds.getD j ""
/-- an item of a list of whole numbers -/
theorem int_at (is : List Int) {i : Int} (h0 : 0 ≤ i) (h : i < (is.length : Int)) : ∃ m, m ∈ is ∧ atI (is.map V.int) i = some (.int m) := by
  obtain ⟨j, rfl⟩ := Int.eq_ofNat_of_zero_le h0
  have hj : j < is.length := by omega
  exact ⟨is[j], List.getElem_mem hj, atI_nat (by simp [hj])⟩
theorem l_same (n : Nums) (l d : Addr) : (flds n l d).lookup ("same" : Str) = some (V.int n.same) := by kernel_rfl
theorem l_out (n : Nums) (l d : Addr) : (flds n l d).lookup ("out" : Str) = some (V.int n.out) := by kernel_rfl
theorem l_into (n : Nums) (l d : Addr) : (flds n l d).lookup ("into" : Str) = some (V.int n.into) := by kernel_rfl
theorem l_prices (n : Nums) (l d : Addr) : (flds n l d).lookup ("prices" : Str) = some (V.ref d) := by kernel_rfl
theorem l_pair_worth (n : Nums) (l d : Addr) : (flds n l d).lookup ("pair_worth" : Str) = none := by kernel_rfl
end QF

set_option Elab.async false
set_option linter.all false
set_option maxRecDepth 100000
set_option maxHeartbeats 4000000
namespace L2
open PySem PySem.Spec PyProof.Rows PySem.W PySem.Calls
section
variable {X : Cx}
/-- xs != [] -/
inductive rNeN (K : Frag) (x : V) (y : V) (H : Hp) (Q : VK) : Prop
  | mk (p : _) (q : _) (xs : _) (_ : x = .ref p) (_ : y = .ref q) (_ : SqL K H p xs) (_ : SqL K H q []) (_ : Q (.bl (!xs.isEmpty)) H) : rNeN K x y H Q
theorem op_ne_nilK (K : Frag) (hu : X.A.units < cLine) (hK : X.K = K := by rfl) : OpR X (compareOp .NotEq) (rNeN K) := by
  subst hK
  intro pins s σ H x y v u Q I rx ry h
  obtain ⟨p, q, xs, rfl, rfl, hp, hq, k⟩ := h
  cases rx
  cases ry
  obtain ⟨its, r, pl, hz⟩ := I.list hp
  obtain ⟨its2, r2, pl2, hz2⟩ := I.list hq
  cases r2
  obtain ⟨⟨cls, dd, data, sl⟩, ho, hc, n, hd⟩ := id pl.isList
  obtain ⟨⟨cls2, dd2, data2, sl2⟩, ho2, hc2, n2, hd2⟩ := id pl2.isList
  simp only at hc hd hc2 hd2
  subst hc hd hc2 hd2
  by_cases e : its = []
  · subst e
    cases r
    refine richCompare_meets_room (op := .NotEq) ⟨_, ho, rfl⟩ ⟨_, ho2, rfl⟩ F.slot_list_ne F.entry_list_ne (F.args_list_ne_2 _ _) (SeqAt.list_neAt p q #[] #[] n n2 dd dd2 sl sl2 rfl (fun _ => true)) ⟨ho, ho2, fun j h1 _ => absurd h1 (by simp), ?_⟩ hu
    exact ⟨(fun x => nomatch x), .bl false, H, I, rfl, k⟩
  · have hx : xs ≠ [] := fun z => by subst z; cases r; exact e rfl
    have hsz : (its.toArray.size != (#[] : Array Value).size) = true := by simpa using e
    refine richCompare_meets_room (op := .NotEq) ⟨_, ho, rfl⟩ ⟨_, ho2, rfl⟩ F.slot_list_ne F.entry_list_ne (F.args_list_ne_2 _ _) (SeqAt.list_ne_lengthsAt p q its.toArray #[] n n2 dd dd2 sl sl2 hsz) ⟨ho, ho2, ?_⟩ hu
    have : (!xs.isEmpty) = true := by simpa using hx
    rw [this] at k
    exact ⟨(fun x => nomatch x), .bl true, H, I, rfl, k⟩
end
end L2
namespace QF
open PySem L2
theorem at0 {α : Type} {xs : List α} {i : Nat} {v : α} (h : xs[i]? = some v) : atI xs (0 + (i : Int)) = some v := by
  rw [Int.zero_add]; exact atI_nat h
/-! what pairs are worth -/
def priceOf (fs : List Form) (x y : Str) : Option Int := (fs.find? fun f => decide (f.1 = x ∧ f.2.1 = y)).map (·.2.2)
def pairW (same : Int) (fs : List Form) (x y : Str) : Option Int := if x = y then some same else (priceOf fs x y).map (same - ·)
def optV : Option Int → V
  | none => .non
  | some i => .int i
theorem key2_eq (f : Form) (x y : Str) : key2 f = [.inr x, .inr y] ↔ f.1 = x ∧ f.2.1 = y := by simp [key2]
theorem val_price (x y : Str) : ∀ fs : List Form, valV (fs.map kvOf) [.inr x, .inr y] = (priceOf fs x y).map V.int
  | [] => rfl
  | f :: r => by
    rw [List.map_cons]
    by_cases h : key2 f = [.inr x, .inr y]
    · have h' := (key2_eq f x y).mp h
      rw [valV_pos (show (kvOf f).1 = _ from h)]
      simp [priceOf, List.find?_cons, h'.1, h'.2, kvOf]
    · have h' : ¬ (f.1 = x ∧ f.2.1 = y) := fun z => h ((key2_eq f x y).mpr z)
      rw [valV_neg (show ¬ (kvOf f).1 = _ from h), val_price x y r]
      simp [priceOf, List.find?_cons, h']
inductive sp_pair (C : Addr) (vs : List V) (H : Hp) (Q : VK) (u3 : XK) : Prop
  | mk (t : Addr) (x y : Str) (n : Nums) (fs : List Form) (dx l d : Addr) (xs : List V) (_ : vs = [.ref t, .str x, .str y]) (_ : TermsAt H C t n fs dx l d xs) (_ : ∀ H', Same H H' → Q (optV (pairW n.same fs x y)) H') : sp_pair C vs H Q u3
abbrev abc : Str := Str.ofString "abcdefghijklmnopqrstuvwxyz"
theorem abc_len : abc.length = 26 := by decide +kernel
theorem str_at (zs : List Str) {i : Int} (h0 : 0 ≤ i) (h : i < (zs.length : Int)) : ∃ m, m ∈ zs ∧ atI (zs.map V.str) i = some (.str m) := by
  obtain ⟨j, rfl⟩ := Int.eq_ofNat_of_zero_le h0
  have hj : j < zs.length := by omega
  exact ⟨zs[j], List.getElem_mem hj, atI_nat (by simp [hj])⟩
theorem app_cps (x y : Str) : (x ++ y).cps.toList = x.cps.toList ++ y.cps.toList := by
  show (x.cps ++ y.cps).toList = _
  simp
def Tups (H H' : Hp) : Prop := ∀ t v, H t = some (.tup v) → H' t = some (.tup v)
theorem Tups.same {H H' : Hp} (s : Same H H') : Tups H H' := fun t v h => s _ _ h
theorem Tups.lst {H : Hp} {l : Addr} {xs : List V} {o : HO} (h : H l = some (.lst xs)) : Tups H (upd H l o) := fun t v e => by
  rw [upd_ne (ne_of e h (by intro z; cases z))]; exact e
theorem Trips.tups {H H' : Hp} {xs : List V} {fs : List Form} (T : Trips H xs fs) (k : Tups H H') : Trips H' xs fs := ⟨T.1, fun i f e => let ⟨b, h1, h2⟩ := T.2 i f e; ⟨b, h1, k _ _ h2⟩⟩
theorem Trips.snoc {H : Hp} {xs : List V} {fs : List Form} {t : Addr} {f : Form} (T : Trips H xs fs) (ht : H t = some (.tup (trip f))) : Trips H (xs ++ [.ref t]) (fs ++ [f]) := by
  refine ⟨by simp [T.1], fun i g e => ?_⟩
  by_cases h : i < fs.length
  · rw [List.getElem?_append_left h] at e
    obtain ⟨b, h1, h2⟩ := T.2 i g e
    exact ⟨b, by rw [List.getElem?_append_left (by rw [T.1]; exact h)]; exact h1, h2⟩
  · have hi : i = fs.length := by
      have := (List.getElem?_eq_some_iff.mp e).1
      simp at this
      omega
    subst hi
    have hg : f = g := by simpa using e
    subst hg
    exact ⟨t, by rw [← T.1]; simp, ht⟩
theorem ixN_nat {n j : Nat} (h : j < n) : ixN n (j : Int) = some j := by
  unfold ixN
  rw [if_pos (by omega), if_pos (by omega)]
  simp
end QF

set_option Elab.async false
set_option linter.all false
set_option maxRecDepth 100000
set_option maxHeartbeats 4000000
/-! banks of words, and near forms among them -/
namespace QF
open PySem L2
theorem abc_cps : abc.cps.toList = (List.range 26).map (97 + ·) := by decide +kernel
theorem abc_is {r : Int} : atI abc.cps.toList (r % 26) = some (97 + (r % 26).toNat) := by
  have h0 : 0 ≤ r % 26 := by omega
  have h1 : r % 26 < 26 := by omega
  generalize r % 26 = m at h0 h1
  obtain ⟨j, rfl⟩ := Int.eq_ofNat_of_zero_le h0
  refine atI_nat ?_
  have hj : j < 26 := by omega
  rw [abc_cps]
  simp [hj]
theorem low_abc (r : Int) : low (97 + (r % 26).toNat) = true := by
  have h1 : (r % 26).toNat ≤ 25 := by omega
  simp [low]
  omega
def lows (z : Str) : Prop := z.cps.toList.all low = true
/-- the k-th word of a bank -/
def bankW (stem : Str) (cell other : Int) (k : Nat) : Str :=
  let size := 1 + cell / 2 % 12
  if cell % 2 = 1 then Txt.slice stem none (some (1 + (size + k) % 12))
  else Txt.slice stem none (some (other % size)) ++ ⟨#[97 + ((other / 12 + k) % 26).toNat]⟩ ++ Txt.slice stem (some (other % size + 1)) (some size)
theorem sIx_pos {n d : Nat} {v : Int} (h0 : 0 ≤ v) (h : v ≤ n) : HT.sIx n d (some v) = v.toNat := by
  simp only [HT.sIx]
  split <;> omega
theorem slice_to {z : Str} {v : Int} (h0 : 0 ≤ v) (h : v ≤ z.length) : (Txt.slice z none (some v)).cps.toList = z.cps.toList.take v.toNat := by
  rw [slice_cps, sIx_pos h0 h, HT.sIx_none]
  simp
theorem slice_in {z : Str} {u v : Int} (h0 : 0 ≤ u) (h1 : u ≤ v) (h : v ≤ z.length) : (Txt.slice z (some u) (some v)).cps.toList = (z.cps.toList.drop u.toNat).take (v.toNat - u.toNat) := by
  rw [slice_cps, sIx_pos h0 (by omega), sIx_pos (by omega) h]
theorem len_list (z : Str) : z.cps.toList.length = z.length := by simp [Str.length]
theorem isW_of {z : Str} (h1 : 1 ≤ z.length) (h2 : z.length ≤ 12) (h : lows z) : isW z = true := by
  have h : z.cps.toList.all low = true := h
  simp [isW, h1, h2, h]
theorem bank_isW {stem : Str} (hl : stem.length = 12) (hs : lows stem) (cell other : Int) (k : Nat) : isW (bankW stem cell other k) = true := by
  have hs' := List.all_eq_true.mp hs
  have hll := len_list stem
  have z0 : 1 ≤ 1 + cell / 2 % 12 ∧ 1 + cell / 2 % 12 ≤ 12 := by omega
  unfold bankW
  simp only
  generalize 1 + cell / 2 % 12 = size at z0
  split
  · have z1 : 1 ≤ 1 + (size + (k : Int)) % 12 ∧ 1 + (size + (k : Int)) % 12 ≤ 12 := by omega
    generalize 1 + (size + (k : Int)) % 12 = m at z1
    have e := slice_to (z := stem) (v := m) (by omega) (by omega)
    have el : (Txt.slice stem none (some m)).length = m.toNat := by rw [← len_list, e, List.length_take, hll]; omega
    refine isW_of (by omega) (by omega) ?_
    unfold lows
    rw [e, List.all_eq_true]
    exact fun c hc => hs' c (List.mem_of_mem_take hc)
  · have z1 : 0 ≤ other % size ∧ other % size < size := ⟨Int.emod_nonneg _ (by omega), Int.emod_lt_of_pos _ (by omega)⟩
    generalize other % size = spot at z1
    have e1 := slice_to (z := stem) (v := spot) (by omega) (by omega)
    have e2 := slice_in (z := stem) (u := spot + 1) (v := size) (by omega) (by omega) (by omega)
    have l1 : (Txt.slice stem none (some spot)).length = spot.toNat := by rw [← len_list, e1, List.length_take, hll]; omega
    have l2 : (Txt.slice stem (some (spot + 1)) (some size)).length = size.toNat - (spot + 1).toNat := by rw [← len_list, e2, List.length_take, List.length_drop, hll]; omega
    have el : (Txt.slice stem none (some spot) ++ (⟨#[97 + ((other / 12 + (k : Int)) % 26).toNat]⟩ : Str) ++ Txt.slice stem (some (spot + 1)) (some size)).length = size.toNat := by
      rw [len_app, len_app, l1, l2]
      show spot.toNat + 1 + _ = _
      omega
    refine isW_of (by omega) (by omega) ?_
    unfold lows
    rw [app_cps, app_cps, e1, e2, List.all_append, List.all_append]
    have a1 : (stem.cps.toList.take spot.toNat).all low = true := List.all_eq_true.mpr fun c hc => hs' c (List.mem_of_mem_take hc)
    have a2 : ((stem.cps.toList.drop (spot + 1).toNat).take (size.toNat - (spot + 1).toNat)).all low = true := List.all_eq_true.mpr fun c hc => hs' c (List.mem_of_mem_drop (List.mem_of_mem_take hc))
    have a3 := low_abc (other / 12 + (k : Int))
    rw [a1, a2]
    simp [a3]
theorem mid_at {A B : List Nat} {c : Nat} : (A ++ [c] ++ B)[A.length]? = some c := by simp
theorem bank_inj {stem : Str} (hl : stem.length = 12) (cell other : Int) {k k' : Nat} (hk : k < 12) (hk' : k' < 12) (e : bankW stem cell other k = bankW stem cell other k') : k = k' := by
  have hll := len_list stem
  have z0 : 1 ≤ 1 + cell / 2 % 12 ∧ 1 + cell / 2 % 12 ≤ 12 := by omega
  unfold bankW at e
  simp only at e
  generalize 1 + cell / 2 % 12 = size at z0 e
  split at e
  · have e := congrArg (fun z : Str => z.cps.toList.length) e
    rw [slice_to (by omega) (by omega), slice_to (by omega) (by omega), List.length_take, List.length_take, hll, hl] at e
    omega
  · have z1 : 0 ≤ other % size ∧ other % size < size := ⟨Int.emod_nonneg _ (by omega), Int.emod_lt_of_pos _ (by omega)⟩
    generalize other % size = spot at z1 e
    have e1 := slice_to (z := stem) (v := spot) (by omega) (by omega)
    have l1 : (stem.cps.toList.take spot.toNat).length = spot.toNat := by rw [List.length_take, hll]; omega
    have at_ : ∀ c : Nat, (Txt.slice stem none (some spot) ++ (⟨#[c]⟩ : Str) ++ Txt.slice stem (some (spot + 1)) (some size)).cps.toList[spot.toNat]? = some c := fun c => by
      rw [app_cps, app_cps, e1]
      have := mid_at (A := stem.cps.toList.take spot.toNat) (B := (Txt.slice stem (some (spot + 1)) (some size)).cps.toList) (c := c)
      rw [l1] at this
      exact this
    have e := congrArg (fun z : Str => z.cps.toList[spot.toNat]?) e
    have e2 := (at_ _).symm.trans (e.trans (at_ _))
    have e3 := Option.some.inj e2
    omega
/-- different words -/
theorem bank_nodup {stem : Str} (hl : stem.length = 12) (cell other : Int) {n : Nat} (hn : n ≤ 12) : ((List.range n).map (bankW stem cell other)).Nodup := by
  refine List.pairwise_map.mpr ?_
  refine List.Pairwise.imp_of_mem (R := fun a b => a ≠ b) (fun {a b} ha hb h e => h ?_) List.nodup_range
  exact bank_inj hl cell other (by have := List.mem_range.mp ha; omega) (by have := List.mem_range.mp hb; omega) e
inductive sp_bank (vs : List V) (H : Hp) (Q : VK) (u3 : XK) : Prop
  | mk (cell other many : Int) (_ : vs = [.int cell, .int other, .int many]) (_ : 0 ≤ many) (_ : many ≤ 12) (_ : ∀ H' b (zs : List Str), Same H H' → H b = none → H' b = some (.lst (zs.map V.str)) → zs.length = many.toNat → (∀ z ∈ zs, isW z = true) → zs.Nodup → Q (.ref b) H') : sp_bank  vs H Q u3
/-! near forms among words -/
structure PairInv (zs : List Str) (i j : Nat) (fs : List Form) : Prop where
  ok : ∀ f ∈ fs, fOk f = true
  nd : (fs.map key2).Nodup
  old : ∀ f ∈ fs, ∃ i' j', (i' < i ∨ (i' = i ∧ j' < j)) ∧ zs[i']? = some f.1 ∧ zs[j']? = some f.2.1
  few : fs.length + (if i < j then 1 else 0) ≤ i * (zs.length - 1) + j
theorem PairInv.nil {zs : List Str} : PairInv zs 0 0 [] := ⟨by simp, by simp, by simp, by simp⟩
theorem PairInv.skip {zs : List Str} {i j : Nat} {fs : List Form} (p : PairInv zs i j fs) : PairInv zs i (j + 1) fs := by
  refine ⟨p.ok, p.nd, fun f hf => ?_, ?_⟩
  · obtain ⟨i', j', h, r⟩ := p.old f hf
    exact ⟨i', j', by omega, r⟩
  · have := p.few
    split <;> split at this <;> omega
theorem nodup_at {zs : List Str} (hn : zs.Nodup) {i j : Nat} {x : Str} (h1 : zs[i]? = some x) (h2 : zs[j]? = some x) : i = j := by
  obtain ⟨a1, b1⟩ := List.getElem?_eq_some_iff.mp h1
  obtain ⟨a2, b2⟩ := List.getElem?_eq_some_iff.mp h2
  exact (List.getElem_inj hn).mp (b1.trans b2.symm)
theorem PairInv.add {zs : List Str} {i j : Nat} {fs : List Form} (p : PairInv zs i j fs) (hn : zs.Nodup) (hw : ∀ z ∈ zs, isW z = true) {x y : Str} (hx : zs[i]? = some x) (hy : zs[j]? = some y) (hne : ¬ x = y) {pr : Int} (h0 : 0 ≤ pr) (h1 : pr ≤ 999999) :
    PairInv zs i (j + 1) (fs ++ [(x, y, pr)]) := by
  have hij : i ≠ j := fun e => hne (by subst e; rw [hx] at hy; exact Option.some.inj hy)
  refine ⟨fun f hf => ?_, ?_, fun f hf => ?_, ?_⟩
  · rcases List.mem_append.mp hf with h | h
    · exact p.ok f h
    · have h : f = (x, y, pr) := by simpa using h
      rw [h]
      have a1 := hw x (List.mem_of_getElem? hx)
      have a2 := hw y (List.mem_of_getElem? hy)
      simp [fOk, formOk, a1, a2, hne, inR, h0, h1]
  · rw [List.map_append]
    refine List.nodup_append.mpr ⟨p.nd, by simp, fun a ha b hb e => ?_⟩
    have hb : b = key2 (x, y, pr) := by simpa using hb
    rw [e, hb] at ha
    obtain ⟨f, hf, ef⟩ := List.mem_map.mp ha
    obtain ⟨e1, e2⟩ := (key2_eq f x y).mp ef
    obtain ⟨i', j', h, r1, r2⟩ := p.old f hf
    rw [e1] at r1
    rw [e2] at r2
    have := nodup_at hn r1 hx
    have := nodup_at hn r2 hy
    omega
  · rcases List.mem_append.mp hf with h | h
    · obtain ⟨i', j', h, r⟩ := p.old f h
      exact ⟨i', j', by omega, r⟩
    · have h : f = (x, y, pr) := by simpa using h
      rw [h]
      exact ⟨i, j, by omega, hx, hy⟩
  · have := p.few
    rw [List.length_append]
    show fs.length + 1 + _ ≤ _
    split <;> split at this <;> omega
theorem PairInv.row {zs : List Str} {i : Nat} {fs : List Form} (p : PairInv zs i zs.length fs) (hi : i < zs.length) : PairInv zs (i + 1) 0 fs := by
  refine ⟨p.ok, p.nd, fun f hf => ?_, ?_⟩
  · obtain ⟨i', j', h, r⟩ := p.old f hf
    exact ⟨i', j', by omega, r⟩
  · have h := p.few
    rw [if_pos hi] at h
    rw [if_neg (by omega), Nat.succ_mul]
    omega
theorem PairInv.good {zs : List Str} {fs : List Form} (p : PairInv zs zs.length 0 fs) (h : zs.length ≤ 8) : goodNear fs = true := by
  have h1 := p.few
  have h2 : zs.length * (zs.length - 1) ≤ 8 * 7 := Nat.mul_le_mul h (by omega)
  rw [if_neg (by omega)] at h1
  have h3 : fs.length ≤ 60 := by omega
  have h4 : fs.all fOk = true := List.all_eq_true.mpr p.ok
  simp [goodNear, h3, h4, p.nd]
theorem good_short {fs : List Form} (h : goodNear fs = true) : Short fs := by
  simp only [goodNear, Bool.and_eq_true, decide_eq_true_eq, List.all_eq_true] at h
  refine ⟨by omega, fun f hf => ?_⟩
  have h1 := h.1.2 f hf
  simp only [fOk, formOk, isW, Bool.and_eq_true, decide_eq_true_eq] at h1
  omega
inductive sp_near (vs : List V) (H : Hp) (Q : VK) (u3 : XK) : Prop
  | mk (cell same : Int) (b : Addr) (zs : List Str) (_ : vs = [.int cell, .ref b, .int same]) (_ : H b = some (.lst (zs.map V.str))) (_ : zs.length ≤ 8) (_ : (∀ z ∈ zs, isW z = true)) (_ : zs.Nodup) (_ : 1 ≤ same) (_ : same ≤ 999999) (_ : ∀ H' l xs fs, Same H H' → H l = none → H' l = some (.lst xs) → Trips H' xs fs → goodNear fs = true → Q (.ref l) H') : sp_near  vs H Q u3
inductive sp_lpair (vs : List V) (H : Hp) (Q : VK) (u3 : XK) : Prop
  | mk (x y : Str) (same : Int) (l : Addr) (xs : List V) (fs : List Form) (_ : vs = [.str x, .str y, .int same, .ref l]) (_ : H l = some (.lst xs)) (_ : Trips H xs fs) (_ : Q (optV (pairW same fs x y)) H) : sp_lpair  vs H Q u3
theorem word_at {zs : List Str} {i : Nat} {v : V} (h : (zs.map V.str)[i]? = some v) : ∃ x, zs[i]? = some x ∧ v = .str x := by
  rw [List.getElem?_map] at h
  cases e : zs[i]? with
  | none => rw [e] at h; cases h
  | some x => rw [e] at h; exact ⟨x, rfl, (Option.some.inj h).symm⟩
theorem no_price {fs : List Form} {x y : Str} (h : ∀ f ∈ fs, ¬ (f.1 = x ∧ f.2.1 = y)) : priceOf fs x y = none := by
  have : fs.find? (fun f => decide (f.1 = x ∧ f.2.1 = y)) = none := by
    rw [List.find?_eq_none]
    intro f hf
    simpa using h f hf
  unfold priceOf
  rw [this]; rfl
theorem first_price : ∀ {fs : List Form} {i : Nat} {x y x0 y0 : Str} {p : Int}, fs[i]? = some (x0, y0, p) → (∀ f ∈ fs.take i, ¬ (f.1 = x ∧ f.2.1 = y)) → (x0 = x ∧ y0 = y) → priceOf fs x y = some p
  | f :: r, 0, x, y, x0, y0, p, h, _, e => by
    have h : f = (x0, y0, p) := by simpa using h
    rw [h]
    simp [priceOf, List.find?_cons, e.1, e.2]
  | f :: r, i + 1, x, y, x0, y0, p, h, hn, e => by
    have h1 : ¬ (f.1 = x ∧ f.2.1 = y) := hn f (by simp)
    have := first_price (fs := r) (i := i) (x := x) (y := y) (by simpa using h) (fun g hg => hn g (by simp [hg])) e
    simpa [priceOf, List.find?_cons, h1] using this
end QF

set_option Elab.async false
set_option linter.all false
set_option maxRecDepth 100000
set_option maxHeartbeats 4000000
/-! terms that are turned -/
namespace QF
open PySem L2
inductive sp_numbers (K : W.Frag) (vs : List V) (H : Hp) (Q : VK) (u3 : XK) : Prop
  | mk (a : Addr) (ns : List Int) (k : Int) (_ : vs = [.ref a, .int k]) (_ : SqL K H a (ns.map V.int)) (_ : 0 ≤ k) (_ : ∀ H' D (s o i l : Int), Same H H' → H D = none → H' D = some (.lst [.int s, .int o, .int i, .int l]) → (1 ≤ s ∧ s ≤ 999999) → (0 ≤ o ∧ o ≤ 999999) → (0 ≤ i ∧ i ≤ 999999) → (1 ≤ l ∧ l ≤ 999999) → Q (.ref D) H') : sp_numbers K vs H Q u3
theorem TermsAt.same {H H' : Hp} {C x : Addr} {n : Nums} {fs : List Form} {dx l d : Addr} {xs : List V} (T : TermsAt H C x n fs dx l d xs) (s : Same H H') : TermsAt H' C x n fs dx l d xs := ⟨s _ _ T.ob, s _ _ T.own, s _ _ T.li, T.tr.same s, s _ _ T.di⟩
theorem four_of {is : List Int} (h : is.length = 4) : ∃ a b c d, is = [a, b, c, d] := by
  match is, h with
  | [a, b, c, d], _ => exact ⟨a, b, c, d, rfl⟩
/-- within what the object's making leaves as it was -/
theorem SameBut.of_new {x dx C : Addr} {H H' : Hp} (hx : H x = none) (hdx : H dx = none) (s : SameBut x (L2.upd (L2.upd H dx (.own x)) x (.ins C dx [])) H') : Same H H' := fun b u e => by
  have n1 : b ≠ x := ne_of_none e hx
  have n2 : b ≠ dx := ne_of_none e hdx
  exact s b u n1 (by rw [upd_ne n1, upd_ne n2]; exact e)
end QF

set_option Elab.async false
set_option linter.all false
set_option maxRecDepth 100000
set_option maxHeartbeats 4000000
namespace L2
open PySem PySem.Spec PyProof.Rows PySem.W PySem.Calls

/-! ### several records of ours have turned; a new thing of theirs is taken in -/
section
variable {X : Cx} {pins : List (Addr × Obj)} {σ : St} {H : Hp} {s : Shared} {h' : Heap}
theorem Inv.turnedL {t' : Nat} {fp : List Addr} (I : Inv X pins σ H s) (hf : ∀ b ∈ fp, FpOk X pins H b) (k : ∀ b o, b ∉ fp → s.heap.get? b = some o → h'.get? b = some o) : Inv X pins σ H { s with heap := h', toks := t' } := by
  have nit : ∀ b u, H b = some u → b ∉ fp := fun b u e z => by rw [(hf b z).1] at e; cases e
  refine I.step (g' := s.gens) (d' := s.drawn) (ch := fp) (fun b hb => ?_) (fun b o _ _ hc e _ => k b o hc e) (fun b o _ _ hc e _ => ⟨o.slots, k b o hc e⟩) (fun _ _ _ _ n => n)
    (fun b o hc e => ⟨o, k b o hc e⟩) (fun _ _ e => e) (fun _ _ _ e => e) (fun b ps e => ⟨#[], by rw [e]; simp⟩) (fun m hm => ?_) (fun b u e => ?_) I.bare
  · obtain ⟨_, f1, _, f3, f4, f5⟩ := hf b hb
    exact ⟨f3, f1, f4, f5⟩
  · obtain ⟨o, es, ep, ho, r⟩ := hm
    exact ⟨o, es, ep, k _ o (fun z => (hf _ z).2.1 rfl) ho, r⟩
  · refine (I.hok b u e).stay (fun c v hc q => k c v ?_ q) (fun _ q => q) fun _ _ q => q
    rcases hc with z | z
    · rw [z]; exact nit b u e
    · exact nit c _ z
theorem Inv.turnedT {t' : Nat} {fp : List Addr} {T : Addr} {u : HO} (I : Inv X pins σ H s) (hf : ∀ b ∈ fp, FpOk X pins H b) (hT : FpOk X pins H T) (k : ∀ b o, b ∉ fp → s.heap.get? b = some o → h'.get? b = some o)
    (new : ObjOk X.prog X.w (upd H T u) h' T u) : Inv X pins σ (upd H T u) { s with heap := h', toks := t' } := by
  have nit : ∀ b u, H b = some u → b ∉ fp := fun b u e z => by rw [(hf b z).1] at e; cases e
  have nT : ∀ b v, H b = some v → b ≠ T := fun b v e z => by rw [z, hT.1] at e; cases e
  refine I.step (g' := s.gens) (d' := s.drawn) (ch := T :: fp) (fun b hb => ?_) (fun b o _ _ hc e _ => k b o (fun z => hc (List.mem_cons_of_mem _ z)) e) (fun b o _ _ hc e _ => ⟨o.slots, k b o (fun z => hc (List.mem_cons_of_mem _ z)) e⟩) (fun b _ hc _ n => ?_)
    (fun b o hc e => ⟨o, k b o (fun z => hc (List.mem_cons_of_mem _ z)) e⟩) (fun b xs e => by rw [upd_ne (nT b _ e)]; exact e) (fun b o v e => by rw [upd_ne (nT b _ e)]; exact e) (fun b ps e => ⟨#[], by rw [upd_ne (nT b _ e), e]; simp⟩) (fun m hm => ?_) (fun b v e => ?_) I.bare
  · rcases List.mem_cons.mp hb with z | z
    · subst z
      obtain ⟨_, f1, _, f3, f4, f5⟩ := hT
      exact ⟨f3, f1, f4, f5⟩
    · obtain ⟨_, f1, _, f3, f4, f5⟩ := hf b z
      exact ⟨f3, f1, f4, f5⟩
  · rw [upd_ne (fun z => hc (by simp [z]))]; exact n
  · obtain ⟨o, es, ep, ho, r⟩ := hm
    exact ⟨o, es, ep, k _ o (fun z => (hf _ z).2.1 rfl) ho, r⟩
  · by_cases hb : b = T
    · subst hb; rw [upd_same] at e; cases e; exact new
    · rw [upd_ne hb] at e
      refine (I.hok b v e).stay (fun c v' hc q => k c v' ?_ q) (fun c q => by rw [upd_ne (nT c _ q)]; exact q) fun c xs q => by rw [upd_ne (nT c _ q)]; exact q
      rcases hc with z | z
      · rw [z]; exact nit b v e
      · exact nit c _ z
end

/-! ### enumerate -/
def Ite (K : Frag) (a : Addr) : It :=
  ⟨fun i H => ∃ xs x, SqL K H a xs ∧ xs[i]? = some x, fun i H x H' => ∃ T y, x = .ref T ∧ H T = none ∧ H' = upd H T (.tup [.int i, y]) ∧ ∀ xs, SqL K H a xs → xs[i]? = some y, fun i H => ∃ xs, SqL K H a xs ∧ xs.length ≤ i⟩
theorem turn_enum {P : Program} {w : World} {K : Frag} {elts : List Expr} {n : Nat} {pos : Pos} (a e it : Addr) (hne : e ≠ it) :
    Turn P w K (.Tuple elts n pos) (Ite K a) [e, it] e (fun i h => (∃ old, IsEnum h e it (i : Nat) old) ∧ h.IsListIter it a i) where
  mem := by simp
  obj := fun i h st b hb => by
    obtain ⟨⟨old, s1⟩, o, s2, _, s3⟩ := st
    rcases List.mem_cons.mp hb with z | z
    · subst z; exact ⟨_, s1, fun v z => by
        have z' : Data.fields _ = Data.cell v := z
        cases z'⟩
    · have e : b = it := by simpa using z
      subst e
      exact ⟨o, s2, fun v z => by rw [s3] at z; cases z⟩
  keep := fun i h h' st k => ⟨⟨st.1.choose, k e (by simp) _ st.1.choose_spec⟩, st.2.at fun o q => k it (by simp) o q⟩
  item := by
    intro X hP hw hK hc i pins s σ H E I hf st hg
    subst hP hw hK
    obtain ⟨xs, x, hq, hx⟩ := hg
    obtain ⟨⟨old, s1⟩, s2⟩ := st
    obtain ⟨its, rv, p, hz⟩ := I.list hq
    obtain ⟨u, hu, ru⟩ := rv.get hx
    refine wpAny_pyNext_enum_item s1 s2 p.isList (x := u) (by simpa using hu) hne fun h' o1 o2 o3 o4 o5 => ?_
    refine ⟨_, rfl, wpAny_letOwnedTupleGo_enum (s := { s with heap := h', toks := s.toks + 1 }) o1 fun h2 q1 q2 => ?_⟩
    have hl2 : h2.get? s.heap.objs.size = some { cls := Value.type "tuple", data := Data.seq #[Value.int (↑i) s.toks, u] } := by
      exact (q2.2 _ (Nat.ne_of_gt (Heap.lt_size s1))).trans o3
    have hT : FpOk X pins H s.heap.objs.size := I.fpOk (Nat.le_refl _) (I.hok.fresh (Nat.le_refl _))
    have I1 : Inv X pins σ (upd H s.heap.objs.size (.tup [.int i, x])) { s with heap := h2, toks := s.toks + 1 } := by
      refine I.turnedT hf hT (fun b o hb q => ?_) ⟨by simp [sizeLine], [Value.int (↑i) s.toks, u], .cons ⟨_, rfl⟩ (.cons ru .nil), ?_⟩
      · have b1 : b ≠ e := fun z => hb (by simp [z])
        have b2 : b ≠ it := fun z => hb (by simp [z])
        exact (q2.2 b b1).trans (o5 b o b1 b2 q)
      · exact ⟨_, hl2, rfl, _, rfl⟩
    refine ⟨.ref s.heap.objs.size, _, I1, rfl, ⟨_, x, rfl, hT.1, rfl, fun ys hy => by rw [I.list_inj hy hq]; exact hx⟩, ⟨⟨u, by simpa using q1⟩, o2.at fun o q => (q2.2 it (Ne.symm hne)).trans q⟩, fun b hb => ?_⟩
    rw [upd_ne (fun z => ?_)]
    · exact (hf b hb).1
    · have h1 := Heap.lt_size s1
      obtain ⟨_, h2, _⟩ := s2
      have h3 := Heap.lt_size h2
      rcases List.mem_cons.mp hb with y | y
      · rw [z.symm.trans y] at h1; exact absurd h1 (Nat.lt_irrefl _)
      · have : b = it := by simpa using y
        rw [z.symm.trans this] at h3; exact absurd h3 (Nat.lt_irrefl _)
  done := by
    intro X hP hw hK hc i pins s σ H E I hf st hg
    subst hP hw hK
    obtain ⟨xs, hq, hx⟩ := hg
    obtain ⟨⟨old, s1⟩, s2⟩ := st
    obtain ⟨its, rv, p, hz⟩ := I.list hq
    have hl := rv.length
    exact wpAny_pyNext_enum_end (I.ok.hd hc) s1 s2 p.isList (by simp; omega) fun h' eb => ⟨rfl, I.turnedL (t' := s.toks) hf (fun b o hb q => eb b o (fun z => hb (by simp [z])) q)⟩
  self := fun _ _ _ _ _ st h => wpAny_pyIter_enum st.1.choose_spec h
section
variable {X : Cx} {tg : Expr}
def iEnum (K : Frag) (ta : TA) : TI := fun σ H R => ta σ H fun vs H1 => ∃ a, vs = [.ref a] ∧ (∃ xs, SqL K H1 a xs) ∧ R (Ite K a) H1
theorem pi_enum {elts : List Expr} {n : Nat} {tp : Pos} {a : Expr} {ta : TA} {p pos : Pos} (hg : Gl X "enumerate") (hm : X.mg "enumerate" = none) (ha : PA X [a] ta) (hs : starEach [a] X.env = [(false, eval a X.env)] := by rfl) :
    PI X (.Tuple elts n tp) (.Call (.Name "enumerate" p) [a] [] pos) (iEnum X.K ta) := by
  intro pins s σ H R I h
  refine Call_ (ld_blt I hg hm boot_enumerate (PyProof.Rows.callWith_type1 (thn (ha pos pins s σ H _ I h) fun us s1 ⟨vs, H1, I1, r1, q1⟩ => ?_) hs rfl))
  obtain ⟨l, e, ⟨xs, hq⟩, q⟩ := q1
  subst e
  cases r1 with
  | cons r rr =>
    cases rr
    cases r
    obtain ⟨its, rv, p, hz⟩ := I1.list hq
    refine call_enumerate_list p.isList fun h' o1 o2 o3 o4 => ?_
    refine wpAny_pyIter_enum (s := { s1 with heap := h' }) o1 ?_
    refine ⟨s1.heap.objs.size + 1, [s1.heap.objs.size + 1, s1.heap.objs.size], _, _, H1, rfl, I1.kept (t' := s1.toks) o4, turn_enum l _ _ (Nat.succ_ne_self _), ⟨⟨_, o1⟩, o2⟩, fun b hb => ?_, q⟩
    have hb' : s1.heap.objs.size ≤ b := by
      rcases List.mem_cons.mp hb with y | y
      · rw [y]; exact Nat.le_succ _
      · have : b = s1.heap.objs.size := by simpa using y
        exact Nat.le_of_eq this.symm
    exact I1.fpOk hb' (I1.hok.fresh hb')
end
theorem pi_enumK {X : Cx} (K : Frag) {elts : List Expr} {n : Nat} {tp : Pos} {a : Expr} {ta : TA} {p pos : Pos} (hg : Gl X "enumerate") (hm : X.mg "enumerate" = none) (ha : PA X [a] ta) (hs : starEach [a] X.env = [(false, eval a X.env)] := by rfl) (h : X.K = K := by rfl) :
    PI X (.Tuple elts n tp) (.Call (.Name "enumerate" p) [a] [] pos) (iEnum K ta) := h ▸ pi_enum hg hm ha hs
/-- over enumerate(xs) -/
theorem for_enum {K : Frag} {a : Addr} {xs : List V} {g : TG} {tb : TS} {D : Ends} {σ : St} {H : Hp} (Pv : Nat → St → Hp → Prop) (h0 : Pv 0 σ H) (hl : ∀ i σ H, i ≤ xs.length → Pv i σ H → SqL K H a xs)
    (hs : ∀ i x T σ H, xs[i]? = some x → Pv i σ H → H T = none → g (.ref T) σ (upd H T (.tup [.int i, x])) fun σ2 H2 => tb { D with nx := Pv (i + 1), ct := Pv (i + 1), bk := D.nx } σ2 H2) (hd : ∀ σ H, Pv xs.length σ H → D.nx σ H) :
    ∃ W : Nat → Nat → St → Hp → Prop, (∃ m, W 0 m σ H) ∧ ∀ i m σ H, W i m σ H →
      ((Ite K a).stop i H ∧ D.nx σ H) ∨ ((Ite K a).go i H ∧ ∃ N : St → Hp → Prop, (∀ σ' H', N σ' H' → ∃ m', m' < m ∧ W (i + 1) m' σ' H') ∧ ∀ x H', (Ite K a).yld i H x H' → g x σ H' fun σ2 H2 => tb { D with nx := N, ct := N, bk := D.nx } σ2 H2) := by
  refine ⟨fun i m σ H => m = xs.length - i ∧ i ≤ xs.length ∧ Pv i σ H, ⟨xs.length, by simp, Nat.zero_le _, h0⟩, ?_⟩
  rintro i m σ H ⟨rfl, hi, p⟩
  have hq := hl i σ H hi p
  by_cases hlt : i < xs.length
  · refine .inr ⟨⟨xs, xs[i], hq, by simp [hlt]⟩, Pv (i + 1), fun σ' H' p' => ⟨xs.length - (i + 1), by omega, rfl, hlt, p'⟩, fun x H' y => ?_⟩
    obtain ⟨T, y, rfl, hT, rfl, hy⟩ := y
    exact hs i y T σ H (hy xs hq) p hT
  · have e : i = xs.length := by omega
    subst e
    exact .inl ⟨⟨xs, hq, Nat.le_refl _⟩, hd σ H p⟩

/-! ### the keys of a dict -/
/-- not known at the entry -/
def NF (H₀ : Hp) (d : Addr) : Prop := ∀ o v, H₀ d ≠ some (.frz o v)
section
variable {X : Cx} {tg : Expr}
end
end L2

set_option Elab.async false
set_option linter.all false
set_option maxRecDepth 100000
set_option maxHeartbeats 4000000
/-! places of words -/
namespace QF
open PySem L2
inductive sp_book (K : W.Frag) (vs : List V) (H : Hp) (Q : VK) (u3 : XK) : Prop
  | mk (a b : Addr) (ns : List Int) (zs : List Str) (c p m : Int) (_ : vs = [.ref a, .int c, .int p, .int m, .ref b]) (_ : SqL K H a (ns.map V.int)) (_ : H b = some (.lst (zs.map V.str))) (_ : (1 ≤ zs.length ∧ zs.length ≤ 1000)) (_ : 0 ≤ p) (_ : 0 ≤ m) (_ : m ≤ 1000) (_ : ∀ H' l (ws : List Str), Same H H' → H l = none → H' l = some (.lst (ws.map V.str)) → ws.length = m.toNat → (∀ w ∈ ws, w ∈ zs) → Q (.ref l) H') : sp_book K vs H Q u3
inductive sp_texts (vs : List V) (H : Hp) (Q : VK) (u3 : XK) : Prop
  | mk (a b : Addr) (ws : List Str) (_ : vs = [.ref a, .ref b]) (_ : H a = some (.lst (ws.map V.str))) (_ : H b = some (.lst (ws.map V.str))) (_ : ws.length ≤ 1000) (_ : Q (.bl true) H) : sp_texts  vs H Q u3
end QF

set_option Elab.async false
set_option linter.all false
set_option maxRecDepth 100000
set_option maxHeartbeats 4000000
namespace L2
open PySem PySem.Spec PyProof.Rows PySem.W PySem.Calls
section
variable {X : Cx}
end
end L2
namespace QF
open PySem L2
/-! how a text is read -/
def cap (c : Nat) : Bool := decide (65 ≤ c) && decide (c ≤ 90)
def conv (c : Nat) : Nat := if low c = true then c else if cap c = true then c + 32 else 32
/-! how many, how long -/
/-! the law's own reading -/
def rd (st : KWd.St) (cs : List Nat) : KWd.St := (cs.map conv).foldl KWd.step st
abbrev both : Str := Str.ofString "abcdefghijklmnopqrstuvwxyzABCDEFGHIJKLMNOPQRSTUVWXYZ"
end QF

set_option Elab.async false
set_option linter.all false
set_option maxRecDepth 100000
set_option maxHeartbeats 4000000
/-! lists: insert, == and != -/
namespace L2
open PySem PySem.Spec PyProof.Rows PySem.W PySem.Calls
section
variable {X : Cx}
/-- the items of two lists, one by one: both flat, or one and the same -/
def EqF (xs ys : List V) (f : Nat → Bool) : Prop := ∀ (j : Nat) (x y : V), xs[j]? = some x → ys[j]? = some y → (flatV x = true ∧ flatV y = true ∧ f j = eqV x y) ∨ (∃ a, x = .ref a ∧ y = .ref a ∧ f j = true)
theorem eqF_at {A : Around} {s : Shared} {xs ys : List V} {its its2 : List Value} {f : Nat → Bool} (r : Vals xs its) (r2 : Vals ys its2) (h : EqF xs ys f) :
    ∀ j (h1 : j < its.toArray.size) (h2 : j < its2.toArray.size), SeqAt.EqAt A s its.toArray[j] its2.toArray[j] (f j) := fun j h1 h2 => by
  have h1' : j < xs.length := by have := r.length; simp at h1; omega
  have h2' : j < ys.length := by have := r2.length; simp at h2; omega
  obtain ⟨a1, e1, q1⟩ := r.get (i := j) (x := xs[j]) (by simp [h1'])
  obtain ⟨a2, e2, q2⟩ := r2.get (i := j) (x := ys[j]) (by simp [h2'])
  have g1 : its.toArray[j] = a1 := by simpa [List.getElem?_eq_some_iff] using (List.getElem?_eq_some_iff.mp e1).2
  have g2 : its2.toArray[j] = a2 := by simpa [List.getElem?_eq_some_iff] using (List.getElem?_eq_some_iff.mp e2).2
  rw [g1, g2]
  rcases h j xs[j] ys[j] (by simp [h1']) (by simp [h2']) with ⟨f1, f2, ef⟩ | ⟨a, ex, ey, ef⟩
  · rw [ef]; exact eqAt_V q1 q2 f1 f2
  · rw [ef]
    rw [ex] at q1
    rw [ey] at q2
    cases q1
    cases q2
    exact SeqAt.EqAt.same _
inductive rEqL (K : Frag) (x : V) (y : V) (H : Hp) (Q : VK) : Prop
  | mk (p : _) (q : _) (xs : _) (ys : _) (f : _) (_ : x = .ref p) (_ : y = .ref q) (_ : SqL K H p xs) (_ : SqL K H q ys) (_ : EqF xs ys f) (_ : Q (.bl (decide (xs.length = ys.length) && (List.range xs.length).all f)) H) : rEqL K x y H Q
theorem op_eq_listK (K : Frag) (hu : X.A.units < cLine) (hK : X.K = K := by rfl) : OpR X (compareOp .Eq) (rEqL K) := by
  subst hK
  intro pins s σ H x y v u Q I rx ry h
  obtain ⟨p, q, xs, ys, f, rfl, rfl, hp, hq, hf, k⟩ := h
  cases rx
  cases ry
  obtain ⟨its, r, pl, hz⟩ := I.list hp
  obtain ⟨its2, r2, pl2, hz2⟩ := I.list hq
  have l1 := r.length
  have l2 := r2.length
  obtain ⟨⟨cls, dd, data, sl⟩, ho, hc, n, hd⟩ := id pl.isList
  obtain ⟨⟨cls2, dd2, data2, sl2⟩, ho2, hc2, n2, hd2⟩ := id pl2.isList
  simp only at hc hd hc2 hd2
  subst hc hd hc2 hd2
  by_cases e : xs.length = ys.length
  · have hsz : its.toArray.size = its2.toArray.size := by rw [List.size_toArray, List.size_toArray]; omega
    refine richCompare_meets_room (op := .Eq) ⟨_, ho, rfl⟩ ⟨_, ho2, rfl⟩ F.slot_list_eq F.entry_list_eq (F.args_list_eq_2 _ _) (SeqAt.list_eqAt p q its.toArray its2.toArray n n2 dd dd2 sl sl2 hsz f) ⟨ho, ho2, eqF_at r r2 hf, ?_⟩ hu
    rw [decide_eq_true e, Bool.true_and] at k
    refine ⟨(fun x => nomatch x), .bl ((List.range xs.length).all f), H, I, ?_, k⟩
    rw [List.size_toArray, ← l1]; rfl
  · have hsz : (its.toArray.size != its2.toArray.size) = true := by
      rw [List.size_toArray, List.size_toArray]
      simp; omega
    refine richCompare_meets_room (op := .Eq) ⟨_, ho, rfl⟩ ⟨_, ho2, rfl⟩ F.slot_list_eq F.entry_list_eq (F.args_list_eq_2 _ _) (SeqAt.list_eq_lengthsAt p q its.toArray its2.toArray n n2 dd dd2 sl sl2 hsz) ⟨ho, ho2, ?_⟩ hu
    rw [decide_eq_false e, Bool.false_and] at k
    exact ⟨(fun x => nomatch x), .bl false, H, I, rfl, k⟩
inductive rNeL (K : Frag) (x : V) (y : V) (H : Hp) (Q : VK) : Prop
  | mk (p : _) (q : _) (xs : _) (ys : _) (f : _) (_ : x = .ref p) (_ : y = .ref q) (_ : SqL K H p xs) (_ : SqL K H q ys) (_ : EqF xs ys f) (_ : Q (.bl (!(decide (xs.length = ys.length) && (List.range xs.length).all f))) H) : rNeL K x y H Q
theorem op_ne_listK (K : Frag) (hu : X.A.units < cLine) (hK : X.K = K := by rfl) : OpR X (compareOp .NotEq) (rNeL K) := by
  subst hK
  intro pins s σ H x y v u Q I rx ry h
  obtain ⟨p, q, xs, ys, f, rfl, rfl, hp, hq, hf, k⟩ := h
  cases rx
  cases ry
  obtain ⟨its, r, pl, hz⟩ := I.list hp
  obtain ⟨its2, r2, pl2, hz2⟩ := I.list hq
  have l1 := r.length
  have l2 := r2.length
  obtain ⟨⟨cls, dd, data, sl⟩, ho, hc, n, hd⟩ := id pl.isList
  obtain ⟨⟨cls2, dd2, data2, sl2⟩, ho2, hc2, n2, hd2⟩ := id pl2.isList
  simp only at hc hd hc2 hd2
  subst hc hd hc2 hd2
  by_cases e : xs.length = ys.length
  · have hsz : its.toArray.size = its2.toArray.size := by rw [List.size_toArray, List.size_toArray]; omega
    refine richCompare_meets_room (op := .NotEq) ⟨_, ho, rfl⟩ ⟨_, ho2, rfl⟩ F.slot_list_ne F.entry_list_ne (F.args_list_ne_2 _ _) (SeqAt.list_neAt p q its.toArray its2.toArray n n2 dd dd2 sl sl2 hsz f) ⟨ho, ho2, eqF_at r r2 hf, ?_⟩ hu
    rw [decide_eq_true e, Bool.true_and] at k
    refine ⟨(fun x => nomatch x), .bl (!(List.range xs.length).all f), H, I, ?_, k⟩
    rw [List.size_toArray, ← l1]; rfl
  · have hsz : (its.toArray.size != its2.toArray.size) = true := by
      rw [List.size_toArray, List.size_toArray]
      simp; omega
    refine richCompare_meets_room (op := .NotEq) ⟨_, ho, rfl⟩ ⟨_, ho2, rfl⟩ F.slot_list_ne F.entry_list_ne (F.args_list_ne_2 _ _) (SeqAt.list_ne_lengthsAt p q its.toArray its2.toArray n n2 dd dd2 sl sl2 hsz) ⟨ho, ho2, ?_⟩ hu
    rw [decide_eq_false e, Bool.false_and] at k
    exact ⟨(fun x => nomatch x), .bl true, H, I, rfl, k⟩
end
end L2
namespace L2
open PySem PySem.Spec PyProof.Rows PySem.W PySem.Calls
section
variable {X : Cx}
end
end L2

set_option Elab.async false
set_option linter.all false
set_option maxRecDepth 100000
set_option maxHeartbeats 4000000
/-! cases, pairs, ways -/
namespace QF
open PySem L2
abbrev Pr := Int × Int
def prV (p : Pr) : List V := [.int p.1, .int p.2]
def Prs (H : Hp) (vs : List V) (ps : List Pr) : Prop := vs.length = ps.length ∧ ∀ (i : Nat) (p : Pr), ps[i]? = some p → ∃ t, vs[i]? = some (V.ref t) ∧ H t = some (.tup (prV p))
theorem Prs.nil {H : Hp} : Prs H [] [] := ⟨rfl, fun i f e => by simp at e⟩
theorem Prs.tups {H H' : Hp} {xs : List V} {fs : List Pr} (T : Prs H xs fs) (k : Tups H H') : Prs H' xs fs := ⟨T.1, fun i f e => let ⟨b, h1, h2⟩ := T.2 i f e; ⟨b, h1, k _ _ h2⟩⟩
theorem Prs.same {H H' : Hp} {xs : List V} {fs : List Pr} (t : Prs H xs fs) (s : Same H H') : Prs H' xs fs := t.tups (Tups.same s)
theorem Prs.append {H : Hp} {xs ys : List V} {fs gs : List Pr} (T : Prs H xs fs) (U : Prs H ys gs) : Prs H (xs ++ ys) (fs ++ gs) := by
  refine ⟨by simp [T.1, U.1], fun i p e => ?_⟩
  by_cases h : i < fs.length
  · rw [List.getElem?_append_left h] at e
    obtain ⟨b, h1, h2⟩ := T.2 i p e
    exact ⟨b, by rw [List.getElem?_append_left (by rw [T.1]; exact h)]; exact h1, h2⟩
  · rw [List.getElem?_append_right (by omega)] at e
    obtain ⟨b, h1, h2⟩ := U.2 _ p e
    exact ⟨b, by rw [List.getElem?_append_right (by rw [T.1]; omega), T.1]; exact h1, h2⟩
theorem Prs.one {H : Hp} {t : Addr} {p : Pr} (ht : H t = some (.tup (prV p))) : Prs H [.ref t] [p] := by
  refine ⟨rfl, fun i q e => ?_⟩
  match i, e with
  | 0, e => cases e; exact ⟨t, rfl, ht⟩
  | i + 1, e => simp at e
theorem Prs.snoc {H : Hp} {xs : List V} {fs : List Pr} {t : Addr} {f : Pr} (T : Prs H xs fs) (ht : H t = some (.tup (prV f))) : Prs H (xs ++ [.ref t]) (fs ++ [f]) := T.append (.one ht)
/-- the k-th pair -/
def pr (ps : List Pr) (k : Nat) : Pr := ps.getD k (0, 0)
theorem pr_at {ps : List Pr} {k : Nat} (h : k < ps.length) : ps[k]? = some (pr ps k) := by
  simp [pr, h]
theorem Prs.atN {H : Hp} {xs : List V} {ps : List Pr} (T : Prs H xs ps) {k : Nat} (h : k < ps.length) : ∃ t, xs[k]? = some (V.ref t) ∧ H t = some (.tup [.int (pr ps k).1, .int (pr ps k).2]) := T.2 k _ (pr_at h)
theorem pr_snoc {ps : List Pr} {p : Pr} {k : Nat} (h : k < ps.length) : pr (ps ++ [p]) k = pr ps k := by
  simp [pr, List.getD_eq_getElem?_getD, List.getElem?_append_left h]
theorem pr_last {ps : List Pr} {p : Pr} : pr (ps ++ [p]) ps.length = p := by
  simp [pr, List.getD_eq_getElem?_getD]
structure Case where
  xs : List Str
  ys : List Str
  same : Int
  out : Int
  into : Int
  least : Int
  fs : List Form
structure CaseL (H : Hp) (a : Addr) (c : Case) (f g m l : Addr) (vs : List V) : Prop where
  ca : H a = some (.lst [.ref f, .ref g, .ref m, .ref l])
  fi : H f = some (.lst (c.xs.map V.str))
  se : H g = some (.lst (c.ys.map V.str))
  nu : H m = some (.lst [.int c.same, .int c.out, .int c.into, .int c.least])
  ne : H l = some (.lst vs)
  tr : Trips H vs c.fs
theorem CaseL.keep {H H' : Hp} {a : Addr} {c : Case} {f g m l : Addr} {vs : List V} (C : CaseL H a c f g m l vs) (s : Same H H') : CaseL H' a c f g m l vs := ⟨s _ _ C.ca, s _ _ C.fi, s _ _ C.se, s _ _ C.nu, s _ _ C.ne, C.tr.same s⟩
structure CaseOk (most : Nat) (c : Case) : Prop where
  x : c.xs.length ≤ most
  y : c.ys.length ≤ most
  good : goodNear c.fs = true
  same : 1 ≤ c.same ∧ c.same ≤ 999999
  out : 0 ≤ c.out ∧ c.out ≤ 999999
  into : 0 ≤ c.into ∧ c.into ≤ 999999
  least : 1 ≤ c.least ∧ c.least ≤ 999999
def wd (xs : List Str) (i : Int) : Option Str := if 0 ≤ i then xs[i.toNat]? else none
theorem wd_nat {xs : List Str} {i : Nat} : wd xs (i : Int) = xs[i]? := by simp [wd]
theorem wd_in {xs : List Str} {i : Int} (h0 : 0 ≤ i) (h : i < (xs.length : Int)) : ∃ x, wd xs i = some x ∧ atI (xs.map V.str) i = some (.str x) := by
  obtain ⟨j, rfl⟩ := Int.eq_ofNat_of_zero_le h0
  have hj : j < xs.length := by omega
  exact ⟨xs[j], by rw [wd_nat]; simp [hj], atI_nat (by simp [hj])⟩
theorem wd_some {xs : List Str} {i : Int} {x : Str} (h : wd xs i = some x) : 0 ≤ i ∧ i < (xs.length : Int) := by
  unfold wd at h
  split at h
  · have := (List.getElem?_eq_some_iff.mp h).1
    omega
  · cases h
def Case.pw (c : Case) (p : Pr) : Option Int := (wd c.xs p.1).bind fun x => (wd c.ys p.2).bind fun y => pairW c.same c.fs x y
theorem Case.pw_of {c : Case} {p : Pr} {x y : Str} (h1 : wd c.xs p.1 = some x) (h2 : wd c.ys p.2 = some y) : c.pw p = pairW c.same c.fs x y := by simp [Case.pw, h1, h2]
theorem Case.pw_in {c : Case} {p : Pr} {w : Int} (h : c.pw p = some w) : (0 ≤ p.1 ∧ p.1 < (c.xs.length : Int)) ∧ (0 ≤ p.2 ∧ p.2 < (c.ys.length : Int)) := by
  unfold Case.pw at h
  cases e1 : wd c.xs p.1 with
  | none => rw [e1] at h; cases h
  | some x =>
    cases e2 : wd c.ys p.2 with
    | none => rw [e1, e2] at h; cases h
    | some y => exact ⟨wd_some e1, wd_some e2⟩
theorem Case.pw_out {c : Case} {p : Pr} (h : ¬ ((0 ≤ p.1 ∧ p.1 < (c.xs.length : Int)) ∧ (0 ≤ p.2 ∧ p.2 < (c.ys.length : Int)))) : c.pw p = none := by
  cases e : c.pw p with
  | none => rfl
  | some w => exact absurd (c.pw_in e) h
def stepOk (q p : Pr) : Bool := decide (q.1 < p.1) && decide (q.2 < p.2)
def Case.gap (c : Case) (q p : Pr) : Int := c.out * (p.1 - q.1 - 1) + c.into * (p.2 - q.2 - 1)
def goodAt (c : Case) (ps : List Pr) (k : Nat) : Bool := (c.pw (pr ps k)).isSome && (decide (k = 0) || stepOk (pr ps (k - 1)) (pr ps k))
def goodTo (c : Case) (ps : List Pr) (n : Nat) : Prop := ∀ k, k < n → goodAt c ps k = true
def isWay (c : Case) (ps : List Pr) : Bool := !ps.isEmpty && (List.range ps.length).all (goodAt c ps)
def worthAt (c : Case) (ps : List Pr) : Nat → Int
  | 0 => (c.pw (pr ps 0)).getD 0
  | k + 1 => (c.pw (pr ps (k + 1))).getD 0 + worthAt c ps k - c.gap (pr ps k) (pr ps (k + 1))
theorem isWay_yes {c : Case} {ps : List Pr} (h : ps ≠ []) (g : goodTo c ps ps.length) : isWay c ps = true := by
  have h1 : ps.isEmpty = false := by simpa using h
  have h2 : (List.range ps.length).all (goodAt c ps) = true := List.all_eq_true.mpr fun k hk => g k (by simpa using hk)
  simp [isWay, h1, h2]
theorem isWay_good {c : Case} {ps : List Pr} (h : isWay c ps = true) : ps ≠ [] ∧ goodTo c ps ps.length := by
  simp only [isWay, Bool.and_eq_true, List.all_eq_true] at h
  refine ⟨fun z => by subst z; simp at h, fun k hk => h.2 k (by simpa using hk)⟩
theorem good_pw {c : Case} {ps : List Pr} {k : Nat} (h : goodAt c ps k = true) : ∃ w, c.pw (pr ps k) = some w := by
  simp only [goodAt, Bool.and_eq_true] at h
  exact Option.isSome_iff_exists.mp h.1
theorem good_step2 {c : Case} {ps : List Pr} {k : Nat} (h : goodAt c ps (k + 1) = true) : (pr ps k).1 < (pr ps (k + 1)).1 ∧ (pr ps k).2 < (pr ps (k + 1)).2 := by
  simp only [goodAt, Bool.and_eq_true, Bool.or_eq_true, decide_eq_true_eq, stepOk] at h
  rcases h.2 with h | h
  · omega
  · simpa using h
theorem good_snoc {c : Case} {ps : List Pr} {p : Pr} (g : goodTo c ps ps.length) (h : (c.pw p).isSome = true) (f : ps = [] ∨ stepOk (pr ps (ps.length - 1)) p = true) : goodTo c (ps ++ [p]) (ps.length + 1) := fun k hk => by
  by_cases e : k < ps.length
  · have := g k e
    simp only [goodAt] at this ⊢
    rw [pr_snoc e]
    by_cases k0 : k = 0
    · subst k0; simpa using this
    · rw [pr_snoc (by omega : k - 1 < ps.length)]; exact this
  · have : k = ps.length := by omega
    subst this
    simp only [goodAt]
    rw [pr_last, h]
    rcases f with f | f
    · subst f; rfl
    · by_cases e0 : ps.length = 0
      · simp [e0]
      · rw [pr_snoc (by omega), f]; simp
/-! the program's terms -/
structure NumOk (c : Case) : Prop where
  out : 0 ≤ c.out ∧ c.out ≤ 999999
  into : 0 ≤ c.into ∧ c.into ≤ 999999
theorem CaseOk.num {m : Nat} {c : Case} (h : CaseOk m c) : NumOk c := ⟨h.out, h.into⟩
def TFor (H : Hp) (CT t : Addr) (c : Case) : Prop := ∃ n dx l d vs, TermsAt H CT t n c.fs dx l d vs ∧ n.same = c.same ∧ n.out = c.out ∧ n.into = c.into ∧ n.least = c.least
theorem TFor.keep {H H' : Hp} {CT t : Addr} {c : Case} (T : TFor H CT t c) (s : Same H H') : TFor H' CT t c := by
  obtain ⟨n, dx, l, d, vs, T, r⟩ := T
  exact ⟨n, dx, l, d, vs, T.same s, r⟩
/-! promises -/
inductive sp_quote (K : W.Frag) (vs : List V) (H : Hp) (Q : VK) (u3 : XK) : Prop
  | mk (a b x : Addr) (ns : List Int) (zs ws : List Str) (c p m : Int) (_ : vs = [.ref a, .int c, .int p, .int m, .ref x, .ref b]) (_ : SqL K H a (ns.map V.int)) (_ : H b = some (.lst (zs.map V.str))) (_ : H x = some (.lst (ws.map V.str))) (_ : (1 ≤ zs.length ∧ zs.length ≤ 1000)) (_ : ws.length ≤ 1000) (_ : (∀ w ∈ ws, w ∈ zs)) (_ : 0 ≤ p) (_ : 0 ≤ m) (_ : m ≤ 1000) (_ : ∀ H' l (ws : List Str), Same H H' → H l = none → H' l = some (.lst (ws.map V.str)) → ws.length = m.toNat → (∀ w ∈ ws, w ∈ zs) → Q (.ref l) H') : sp_quote K vs H Q u3
inductive sp_case (K : W.Frag) (vs : List V) (H : Hp) (Q : VK) (u3 : XK) : Prop
  | mk (a : Addr) (ns : List Int) (most : Int) (_ : vs = [.ref a, .int most]) (_ : SqL K H a (ns.map V.int)) (_ : 0 ≤ most) (_ : most ≤ 40) (_ : ∀ H' b c f g m l us, Same H H' → H b = none → CaseL H' b c f g m l us → CaseOk most.toNat c → Q (.ref b) H') : sp_case K vs H Q u3
inductive sp_lterms (C : Addr) (vs : List V) (H : Hp) (Q : VK) (u3 : XK) : Prop
  | mk (a : Addr) (c : Case) (f g m l : Addr) (us : List V) (most : Nat) (_ : vs = [.ref a]) (_ : CaseL H a c f g m l us) (_ : CaseOk most c) (_ : ∀ H' t, Same H H' → TFor H' C t c → Q (.ref t) H') : sp_lterms C vs H Q u3
inductive sp_lworth (vs : List V) (H : Hp) (Q : VK) (u3 : XK) : Prop
  | mk (a w : Addr) (c : Case) (f g m l : Addr) (us : List V) (ws : List V) (ps : List Pr) (_ : vs = [.ref a, .ref w]) (_ : CaseL H a c f g m l us) (_ : NumOk c) (_ : H w = some (.lst ws)) (_ : Prs H ws ps) (_ : ps.length ≤ 10000) (_ : isWay c ps = true) (_ : Q (.int (worthAt c ps (ps.length - 1))) H) : sp_lworth  vs H Q u3
end QF

set_option Elab.async false
set_option linter.all false
set_option maxRecDepth 100000
set_option maxHeartbeats 4000000
/-! max(xs, default=None), pairs compared, xs[::-1], defs with defaults, blocks over enumerate -/
namespace L2
open PySem PySem.Spec PyProof.Rows PySem.W PySem.Calls
section
variable {pg : Program} {wd : World} {Ar : Around} {Rs : Result → Shared → Prop} {it : Addr} {fp wr : List Addr} {n : Nat} {Pv : Nat → Value → Prop} {Sv : Nat → Heap → Prop}
def mlName : (toString "max" ++ toString ".loop" : String) = "max.loop" := by decide
theorem maxD_loop (Wk : Walks pg wd Ar.in1 it fp wr n Pv Sv) (bt : Nat → Nat → Bool) (cmp : CmpOf pg wd Ar.in1 .Gt Pv bt) (B : Addr) (nb : B ∉ fp) (dv : Value) :
    ∀ (k j : Nat) (st : Shared) (old : List Value) (c : Nat), n - j = k → j ≤ n → Sv j st.heap → ((j = 0 ∧ old = []) ∨ ∃ vb, 0 < j ∧ old = [vb, vb] ∧ Pv (argBest bt (j - 1)) vb) →
    st.heap.get? B = some { cls := .type "list", dict := none, data := .seq old.toArray c, slots := #[] } →
    (∀ v h' tk, ((n = 0 ∧ v = dv) ∨ (0 < n ∧ Pv (argBest bt (n - 1)) v)) → (∀ b o, b ∉ wr → b ≠ B → st.heap.get? b = some o → h'.get? b = some o) → Rs (.ok (.ret v)) { st with heap := h', toks := tk }) →
    codeAny (model pg wd) Ar (.builtin "max.loop" ⟨[.ref it, .none, .ref B], [("default", dv)]⟩) Rs st := by
  have nw : B ∉ wr := fun z => nb (Wk.sub _ z)
  intro k
  induction k with
  | zero =>
    intro j st old c ek lj sv ol eB fin
    have ej : j = n := by omega
    subst ej
    refine codeAny_builtin F.entry_max_loop ?_
    rw [Around.under_plainId F.plain_max_loop _]
    show wpAny _ Ar.in1 (seqItems? (.ref B) >>= _) _ _ st
    refine wpAny_bind (wpAny_seqItems eB rfl ?_)
    show wpAny _ Ar.in1 (tryCatch (pyNext (.ref it)) _ >>= _) _ _ st
    refine wpAny_bind (wpAny_tryCatch (Wk.done st _ _ sv fun h' tk kp => ?_))
    rcases ol with ⟨z0, rfl⟩ | ⟨vb, z0, rfl, pb⟩
    · refine wpAny_bind (wpAny_rule (wpAny_pure ?_))
      exact fin dv _ tk (.inl ⟨z0, rfl⟩) fun b o hb _ e => kp b o hb e
    · have eB' := kp B _ nw eB
      show wpAny _ Ar.in1 (updateSeq B (fun _ => #[]) >>= _) _ _ _
      refine wpAny_bind ?_
      refine wpAny_updateSeq eB' rfl (wpAny_bind (wpAny_letGo (wpAny_pure ?_)))
      exact fin vb _ tk (.inr ⟨z0, pb⟩) fun b o hb hB e => (Heap.get?_update_other _ _ (Ne.symm hB)).trans (kp b o hb e)
  | succ k ih =>
    intro j st old c ek lj sv ol eB fin
    have lt : j < n := by omega
    refine codeAny_builtin F.entry_max_loop ?_
    rw [Around.under_plainId F.plain_max_loop _]
    show wpAny _ Ar.in1 (seqItems? (.ref B) >>= _) _ _ st
    refine wpAny_bind (wpAny_seqItems eB rfl ?_)
    show wpAny _ Ar.in1 (tryCatch (pyNext (.ref it)) _ >>= _) _ _ st
    refine wpAny_bind (wpAny_tryCatch (Wk.item j st _ _ lt sv fun v h' tk pv sv' kp => ?_))
    have eB' := kp B _ nw eB
    have up : ∀ (g : Array Value → Array Value) (b : Addr), b ∈ fp → ∀ o, h'.get? b = some o → (h'.update B (Obj.mapSeq g)).get? b = some o := fun g b hb o e => (Heap.get?_update_other _ _ (fun z : B = b => nb (by rw [z]; exact hb))).trans e
    rcases ol with ⟨rfl, rfl⟩ | ⟨vb, z0, rfl, pb⟩
    · show wpAny _ Ar.in1 (updateSeq B (fun _ => #[v, v]) >>= _) _ _ _
      refine wpAny_bind ?_
      refine wpAny_updateSeq eB' rfl ?_
      rw [mlName]
      refine wpAny_pure ⟨plainId_quiet F.plain_max_loop _, ih 1 _ [v, v] _ (by omega) lt (Wk.frame _ _ _ sv' (up _)) (.inr ⟨v, by decide, rfl, pv⟩) (Heap.get?_update_self _ eB' rfl) fun v' h2 tk2 pf kp2 => ?_⟩
      exact fin v' h2 tk2 pf fun b o hb hB e => kp2 b o hb hB ((Heap.get?_update_other _ _ (Ne.symm hB)).trans (kp b o hb e))
    · obtain ⟨i, rfl⟩ : ∃ i, j = i + 1 := ⟨j - 1, by omega⟩
      have pb : Pv (argBest bt i) vb := pb
      show wpAny _ Ar.in1 (tryCatch (holding [v, v] (richCompare .Gt v vb >>= _)) _ >>= _) _ _ _
      refine wpAny_bind (wpAny_tryCatch (wpAny_holding (wpAny_bind (cmp (i + 1) (argBest bt i) v vb _ _ _ pv pb ?_))))
      refine wpAny_bind (wpAny_holding (wpAny_truthy_bool ?_))
      refine wpAny_bind (wpAny_letGo (wpAny_pure ?_))
      cases hb : bt (i + 1) (argBest bt i) with
      | true =>
        simp only [if_true]
        refine wpAny_bind ?_
        refine wpAny_updateSeq eB' rfl (wpAny_bind (wpAny_letGo ?_))
        rw [mlName]
        refine wpAny_pure ⟨plainId_quiet F.plain_max_loop _, ih (i + 2) _ [v, v] _ (by omega) lt (Wk.frame _ _ _ sv' (up _)) (.inr ⟨v, by omega, rfl, ?_⟩) (Heap.get?_update_self _ eB' rfl) fun v' h2 tk2 pf kp2 => ?_⟩
        · show Pv (argBest bt (i + 1)) v
          simp only [argBest, hb, if_true]
          exact pv
        · exact fin v' h2 tk2 pf fun b o hb hB e => kp2 b o hb hB ((Heap.get?_update_other _ _ (Ne.symm hB)).trans (kp b o hb e))
      | false =>
        simp only [Bool.false_eq_true, if_false]
        refine wpAny_bind (wpAny_letGo ?_)
        rw [mlName]
        refine wpAny_pure ⟨plainId_quiet F.plain_max_loop _, ih (i + 2) _ [vb, vb] c (by omega) lt sv' (.inr ⟨vb, by omega, rfl, ?_⟩) eB' fun v' h2 tk2 pf kp2 => ?_⟩
        · show Pv (argBest bt (i + 1)) vb
          simp only [argBest, hb, Bool.false_eq_true, if_false]
          exact pb
        · exact fin v' h2 tk2 pf fun b o hb hB e => kp2 b o hb hB (kp b o hb e)
theorem args_maxD (a d : Value) : argsOk "max" ⟨[a], [("default", d)]⟩ := by unfold argsOk; kernel_rfl
end
section
variable {X : Cx}
def optO : Option Int → V
  | none => .non
  | some i => .int i
theorem vals_whole {is : List Int} {us : List Value} (r : Vals (is.map V.int) us) : us.length = is.length ∧ ∀ (j : Nat) (v : Value), us[j]? = some v → ∃ t, v = .int (is.getD j 0) t := by
  have hl := r.length
  rw [List.length_map] at hl
  refine ⟨hl.symm, fun j v e => ?_⟩
  have hj : j < is.length := by have := (List.getElem?_eq_some_iff.mp e).1; omega
  obtain ⟨u, eu, ru⟩ := r.get (i := j) (x := .int is[j]) (by simp [hj])
  rw [e] at eu
  cases eu
  obtain ⟨t, rfl⟩ := ru
  exact ⟨t, by simp [hj]⟩
theorem max_of {is : List Int} {k : Nat} (hk : k < is.length) (h : ∀ j, j < is.length → is.getD j 0 ≤ is.getD k 0) : is.max? = some (is.getD k 0) := by
  rw [List.max?_eq_some_iff]
  refine ⟨by simp [hk], fun b hb => ?_⟩
  obtain ⟨j, hj, rfl⟩ := List.mem_iff_getElem.mp hb
  have := h j hj
  simpa [hj] using this
/-- max(xs, default=None) of whole numbers -/
theorem call_maxD (hc : X.calm = true) {pins : List (Addr × Obj)} {s : Shared} {σ : St} {H : Hp} {a : Addr} {is : List Int} {Q : VK} (I : Inv X pins σ H s) (hq : SqL X.K H a (is.map V.int)) (q : Q (optO is.max?) H) :
    wpAny (model X.prog X.w) X.A (call (.builtin "max") [.ref a] [("default", .none)]) (EP X pins σ Q) X.xe s := by
  obtain ⟨its, rv, p, hz⟩ := I.list hq
  obtain ⟨hl, hv⟩ := vals_whole rv
  refine wpAny_call (codeAny_call_builtin F.plain_max F.entry_max ?_)
  simp only [checkBuiltinCall, F.kind_max]
  have body : wpAny (model X.prog X.w) X.A.in1 (Builtin.«max» ⟨[.ref a], [("default", .none)]⟩) (fun fin s' => match fin with
      | .done f => (match (Except.ok f : Result) with | .ok (.ret v) => EP X pins σ Q v s' | .ok _ => False | .error e => X.xe e s')
      | .again c' => c'.quiet = true ∧ codeAny (model X.prog X.w) X.A c' (fun r s' => match r with | .ok (.ret v) => EP X pins σ Q v s' | .ok _ => False | .error e => X.xe e s') s') X.xe s := by
    show wpAny _ X.A.in1 (Builtin.Builtins.bindParams "max" ["key", "default"] 0 ⟨[], [("default", .none)]⟩ >>= _) _ _ s
    refine wpAny_bind (wpAny_of_eq (show Builtin.Builtins.bindParams "max" ["key", "default"] 0 ⟨[], [("default", .none)]⟩ = pure [none, some .none] from rfl) ?_)
    refine wpAny_bind (wpAny_pure (wpAny_bind (wpAny_pyIter_list p.isList ?_)))
    have hne : a ≠ s.heap.objs.size := by
      obtain ⟨o, n, e, _⟩ := p
      exact Nat.ne_of_lt (Heap.lt_size e)
    refine wpAny_bind (wpAny_newObj_type ?_)
    rw [mlName]
    have eS : (s.heap.push { cls := .type "list_iterator", data := .fields #[.ref a, .int 0 0] }).objs.size = s.heap.objs.size + 1 := by simp [Heap.push]
    have Wk := Walks.list (prog := X.prog) (w := X.w) (A := X.A.in1) (show X.A.in1.handled = none from I.ok.hd hc) s.heap.objs.size a hne its.toArray
    refine wpAny_pure ⟨plainId_quiet F.plain_max_loop _, maxD_loop (pg := X.prog) (wd := X.w) Wk _ (CmpOf.ints_gt (fun j => is.getD j 0) fun j v e => hv j v (by simpa using e)) (s.heap.push { cls := .type "list_iterator", data := .fields #[.ref a, .int 0 0] }).objs.size ?_ .none _ 0 _ [] 0 rfl (Nat.zero_le _) ?_ (.inl ⟨rfl, rfl⟩) ?_ fun v h' tk pf kp => ?_⟩
    · intro z
      simp only [List.mem_cons, List.not_mem_nil, or_false] at z
      rw [eS] at z
      rcases z with z | z
      · exact Nat.succ_ne_self _ z
      · obtain ⟨o, n, e, _⟩ := p
        have lt := Heap.lt_size e
        rw [← z] at lt
        exact Nat.lt_irrefl _ (Nat.lt_of_succ_lt lt)
    · exact ⟨⟨_, Heap.get?_push_of_some _ (Heap.get?_push_size _ rfl), rfl, rfl⟩, p.isList.at fun o e => Heap.get?_push_of_some _ (Heap.get?_push_of_some _ e)⟩
    · exact Heap.get?_push_size _ rfl
    · have keep : ∀ b o, s.heap.get? b = some o → h'.get? b = some o := fun b o e => by
        have lt := Heap.lt_size e
        refine kp b o (fun z => ?_) (fun z => ?_) (Heap.get?_push_of_some _ (Heap.get?_push_of_some _ e))
        · have z : b = s.heap.objs.size := by simpa using z
          rw [z] at lt
          exact Nat.lt_irrefl _ lt
        · rw [z, eS] at lt
          exact Nat.lt_irrefl _ (Nat.lt_of_succ_lt lt)
      have sz : its.toArray.size = is.length := by simp [hl]
      rcases pf with ⟨h0, rfl⟩ | ⟨h0, pf⟩
      · have : is = [] := List.length_eq_zero_iff.mp (by omega)
        subst this
        exact ⟨.non, H, I.kept (t' := tk) keep, rfl, q⟩
      · rw [List.getElem?_toArray] at pf
        obtain ⟨t, rfl⟩ := hv _ v pf
        obtain ⟨b1, b2⟩ := argBest_gt (fun j => is.getD j 0) (its.toArray.size - 1)
        have em := max_of (is := is) (k := argBest (fun i j => decide (is.getD i 0 > is.getD j 0)) (its.toArray.size - 1)) (by omega) fun j hj => b2 j (by omega)
        rw [em] at q
        exact ⟨.int _, H, I.kept (t' := tk) keep, ⟨t, rfl⟩, q⟩
  cases hsig : Manifest.signature? "max" with
  | none => exact wpAny_pure body
  | some sig =>
    have ha := args_maxD (.ref a) .none
    simp only [argsOk, hsig] at ha
    have h2 : Bind.checkArgs "max" sig ⟨[.ref a], [("default", .none)]⟩ = pure () := ha
    show wpAny _ X.A.in1 (Bind.checkArgs "max" sig ⟨[.ref a], [("default", .none)]⟩) _ _ s
    rw [h2]; exact wpAny_pure body
def tMaxD (K : Frag) (ta : TE) : TE := fun σ H Q => ta σ H fun x H1 => ∃ (a : Addr) (is : List Int), x = .ref a ∧ SqL K H1 a (is.map V.int) ∧ Q (optO is.max?) H1
theorem pe_maxD (K : Frag) {e : Expr} {ta : TE} {p pos kp cp : Pos} {j : Nat} (hc : X.calm = true) (hg : Gl X "max") (hm : X.mg "max" = none) (he : PE X e ta) (hs : starEach [e] X.env = [(false, eval e X.env)] := by rfl) (hK : X.K = K := by rfl) :
    PE X (.Call (.Name "max" p) [e] [⟨some "default", .Constant .none j cp, kp⟩] pos) (tMaxD K ta) := by
  subst hK
  intro pins s σ H Q I h
  refine wpAny_Call_Name_kw (ld_blt I hg hm (PyProof.Rows.Boot.«max») ?_ (by decide) (by decide))
  rw [hs]
  refine callWith_builtin_kwB (first := []) rfl rfl (evalArgs_kwB rfl ?_)
  refine Calls.spliced_cons ?_
  show wpAny _ _ (eval e X.env) _ _ s
  refine thn (he pins s σ H _ I h) fun v s1 ⟨x, H1, I1, r1, q1⟩ => Calls.spliced_nil ?_
  obtain ⟨a, is, rfl, hq, q⟩ := q1
  cases r1
  refine kws_cons ?_
  refine Constant_none ?_
  refine kws_nil ?_
  exact call_maxD hc I1 hq q

/-- two tuples of flat items, one by one -/
def eqTs : List V → List V → Bool
  | [], [] => true
  | x :: xs, y :: ys => eqV x y && eqTs xs ys
  | _, _ => false
theorem eqTs_range : ∀ (xs ys : List V), ((List.range (min xs.length ys.length)).all (fun j => eqV (xs.getD j .non) (ys.getD j .non)) && xs.length == ys.length) = eqTs xs ys
  | [], [] => rfl
  | [], y :: ys => by simp [eqTs]
  | x :: xs, [] => by simp [eqTs]
  | x :: xs, y :: ys => by
    have ih := eqTs_range xs ys
    simp only [eqTs]
    rw [← ih]
    have e : min (x :: xs).length (y :: ys).length = min xs.length ys.length + 1 := by simp [Nat.succ_min_succ]
    rw [e, List.range_succ_eq_map, List.all_cons, List.all_map]
    simp only [List.getD_cons_zero, Function.comp_def, List.getD_cons_succ, List.length_cons, Bool.and_assoc]
    congr 2
    simp
theorem tup_eqAt {A : Around} {s : Shared} {xs ys : List V} {its its2 : List Value} (r : Vals xs its) (r2 : Vals ys its2) (f1 : xs.all flatV = true) (f2 : ys.all flatV = true) :
    ∀ j (h1 : j < its.toArray.size) (h2 : j < its2.toArray.size), SeqAt.EqAt A s its.toArray[j] its2.toArray[j] ((fun j => eqV (xs.getD j .non) (ys.getD j .non)) j) := by
  refine eqF_at r r2 fun j x y hx hy => .inl ⟨List.all_eq_true.mp f1 x (List.mem_of_getElem? hx), List.all_eq_true.mp f2 y (List.mem_of_getElem? hy), ?_⟩
  simp [List.getD_eq_getElem?_getD, hx, hy]
/-- a tuple not in a list of tuples -/
def TL (H : Hp) (vs : List V) (cs : List (List V)) : Prop := vs.length = cs.length ∧ ∀ (i : Nat) (c : List V), cs[i]? = some c → ∃ t, vs[i]? = some (V.ref t) ∧ H t = some (.tup c) ∧ c.all flatV = true
inductive rNotInT (K : Frag) (x : V) (y : V) (H : Hp) (Q : VK) : Prop
  | mk (p q : Addr) (xs vs : List V) (cs : List (List V)) (_ : x = .ref p) (_ : y = .ref q) (_ : SqT K H p xs) (_ : xs.all flatV = true) (_ : SqL K H q vs) (_ : TL H vs cs) (_ : (∀ i : Nat, vs[i]? ≠ some (V.ref p))) (_ : Q (.bl (!(cs.any fun c => eqTs c xs))) H) : rNotInT K x y H Q
open Classical in
theorem op_notIn_tupsK (K : Frag) (hu : X.A.units + 1 < cLine) (hK : X.K = K := by rfl) : OpR X (compareOp .NotIn) (rNotInT K) := by
  subst hK
  intro pins s σ H x y v u Q I rx ry h
  obtain ⟨p, q, xs, vs, cs, rfl, rfl, hp, fx, hq, tl, hne, k⟩ := h
  cases rx
  cases ry
  obtain ⟨its, r, pl, hz⟩ := I.tuple hp
  obtain ⟨its2, r2, pl2, hz2⟩ := I.list hq
  have lc := tl.1
  have l2 := r2.length
  have key : ∀ j, j < its2.length → ∃ c t, cs[j]? = some c ∧ its2[j]? = some (.ref t) ∧ SeqAt.EqAt X.A.in1 s (.ref t) (.ref p) (eqTs c xs) := fun j hj => by
    have hc : cs[j]? = some cs[j] := by simp [show j < cs.length by omega]
    generalize cs[j] = c at hc
    obtain ⟨t, ht1, ht2, ht3⟩ := tl.2 j c hc
    obtain ⟨u, eu, ru⟩ := r2.get ht1
    cases ru
    refine ⟨c, t, hc, eu, ?_⟩
    obtain ⟨its3, r3, pl3, hz3⟩ := I.tuple (xs := c) (.of ht2)
    have hn : t ≠ p := fun z => hne j (by rw [ht1, z])
    have := SeqAt.EqAt.of_refs hn (SeqAt.RcAt.tuples (A := X.A.in1) pl3 pl (show X.A.in1.units < cLine from hu) (tup_eqAt r3 r ht3 fx))
    rw [← eqTs_range, r3.length, r.length]
    simpa using this
  let e : Value → Bool := fun y => decide (∃ (c : List V) (t : Addr), y = Value.ref t ∧ eqTs c xs = true ∧ ∃ j : Nat, cs[j]? = some c ∧ its2[j]? = some (Value.ref t))
  have uniq : ∀ (j : Nat) (c : List V) (t : Addr), cs[j]? = some c → its2[j]? = some (Value.ref t) → e (.ref t) = eqTs c xs := fun j c t h1 h2 => by
    show decide _ = _
    rw [Bool.eq_iff_iff, decide_eq_true_iff]
    refine ⟨fun ⟨c2, t2, et, hh, j2, g1, g2⟩ => ?_, fun hh => ⟨c, t, rfl, hh, j, h1, h2⟩⟩
    cases et
    obtain ⟨a1, b1, b2, b3⟩ := tl.2 j c h1
    obtain ⟨a2, d1, d2, d3⟩ := tl.2 j2 c2 g1
    obtain ⟨u1, eu1, ru1⟩ := r2.get b1
    obtain ⟨u2, eu2, ru2⟩ := r2.get d1
    cases ru1
    cases ru2
    rw [h2] at eu1
    rw [g2] at eu2
    cases eu1
    cases eu2
    rw [b2] at d2
    cases d2
    exact hh
  refine SeqAt.notIn_listAt e pl2.isList (fun y hy => ?_) ?_
  · obtain ⟨j, hj, rfl⟩ := Array.mem_iff_getElem.mp hy
    have hj' : j < its2.length := by simpa using hj
    obtain ⟨c, t, h1, h2, h3⟩ := key j hj'
    have : its2.toArray[j] = .ref t := by
      have := (List.getElem?_eq_some_iff.mp h2).2
      simpa using this
    rw [this, uniq j c t h1 h2]
    exact h3
  · refine ⟨.bl (!(cs.any fun c => eqTs c xs)), H, I, ?_, k⟩
    have : its2.toArray.any e = cs.any fun c => eqTs c xs := by
      rw [Bool.eq_iff_iff, Array.any_eq_true, List.any_eq_true]
      constructor
      · rintro ⟨j, hj, hh⟩
        have hj' : j < its2.length := by simpa using hj
        obtain ⟨c, t, h1, h2, _⟩ := key j hj'
        have ej : its2.toArray[j] = .ref t := by
          have := (List.getElem?_eq_some_iff.mp h2).2
          simpa using this
        rw [ej, uniq j c t h1 h2] at hh
        exact ⟨c, List.mem_of_getElem? h1, hh⟩
      · rintro ⟨c, hc, hh⟩
        obtain ⟨j, hj, rfl⟩ := List.mem_iff_getElem.mp hc
        have hj' : j < its2.length := by omega
        obtain ⟨c', t, h1, h2, _⟩ := key j hj'
        have : c' = cs[j] := by rw [List.getElem?_eq_getElem hj] at h1; exact (Option.some.inj h1).symm
        subst this
        refine ⟨j, by simpa using hj', ?_⟩
        have ej : its2.toArray[j]'(by simpa using hj') = .ref t := by
          have := (List.getElem?_eq_some_iff.mp h2).2
          simpa using this
        rw [ej, uniq j _ t h1 h2]
        exact hh
    rw [this]; rfl

/-- xs[::-1]: some of the items -/
def tRev (K : Frag) (te ts : TE) : TE := fun σ H Q => te σ H fun x H1 => ts σ H1 fun y H2 => y = .int (-1) ∧ ∃ a xs, x = .ref a ∧ SqL K H2 a xs ∧ ∀ p ys, H2 p = none → ys.length ≤ xs.length → (∀ z ∈ ys, z ∈ xs) → Q (.ref p) (upd H2 p (.lst ys))
theorem Vals.pick {xs : List V} {us : List Value} (r : Vals xs us) : ∀ ks : List Nat, Vals (ks.filterMap (xs[·]?)) (ks.filterMap (us[·]?))
  | [] => .nil
  | k :: ks => by
    have ih := r.pick ks
    cases e : xs[k]? with
    | none =>
      have : us[k]? = none := List.getElem?_eq_none (by have := List.getElem?_eq_none_iff.mp e; have := r.length; omega)
      rw [List.filterMap_cons_none e, List.filterMap_cons_none this]
      exact ih
    | some x =>
      obtain ⟨u, eu, ru⟩ := r.get e
      rw [List.filterMap_cons_some e, List.filterMap_cons_some eu]
      exact .cons ru ih
theorem pick_mem {xs : List V} {ks : List Nat} : ∀ z ∈ ks.filterMap (xs[·]?), z ∈ xs := fun z hz => by
  obtain ⟨k, _, e⟩ := List.mem_filterMap.mp hz
  exact List.mem_of_getElem? e
theorem pe_rev (K : Frag) {e st : Expr} {te ts : TE} {p2 pos : Pos} (he : PE X e te) (hs : PE X st ts) (hK : X.K = K := by rfl) : PE X (.Subscript e (.Slice none none (some st) p2) pos) (tRev K te ts) := by
  subst hK
  intro pins s σ H Q I h
  refine Subscript_ (thn (he pins s σ H _ I h) fun v s1 ⟨x, H1, I1, r1, q1⟩ => ?_)
  refine wpAny_Slice ?_
  rw [evalPart_none]
  refine wpAny_pure (wpAny_pure ?_)
  refine thn (hs pins s1 σ H1 _ I1 q1) fun w s3 ⟨y, H3, I3, ry, q3⟩ => ?_
  obtain ⟨rfl, a, xs, rfl, hx, q⟩ := q3
  cases r1
  obtain ⟨t, rfl⟩ := ry
  have I4 : Inv X pins σ H3 { s3 with heap := s3.heap.push { cls := .type "slice", data := .fields #[.none, .none, .int (-1) t] } } := I3.kept (t' := s3.toks) fun b ob q => Heap.get?_push_of_some _ q
  obtain ⟨its, r, ht, hz⟩ := I4.list hx
  have hlen := r.length
  show wpAny (model X.prog X.w) X.A (subscriptTail e (.Slice none none (some st) p2) (.ref a) (.ref s3.heap.objs.size)) (EP X pins σ Q) X.xe _
  refine tail_any (ops := [.ref a, .ref s3.heap.objs.size]) ht.isList.typeIs slot_list_getitem.lookup ?_ (by with_unfolding_all rfl)
  refine wpAny_getItem_list_slice ht.isList (Heap.IsSliceOf.new ..) .none .none (.int (-1) t) (by simp) ?_ (by rw [List.size_toArray]; omega)
  let ks := sliceRange (sliceBounds none none (some (-1)) its.toArray.size).1 (sliceBounds none none (some (-1)) its.toArray.size).2.1 (sliceBounds none none (some (-1)) its.toArray.size).2.2
  have hks : ks.length ≤ its.length := by
    have := sliceRange_len_le (sliceBounds none none (some (-1)) its.toArray.size).1 (sliceBounds none none (some (-1)) its.toArray.size).2.1 (sliceBounds none none (some (-1)) its.toArray.size).2.2 (by simp [sliceBounds])
    refine Nat.le_trans this ?_
    simp [sliceBounds]
  have hy : (ks.filterMap (xs[·]?)).length ≤ xs.length := Nat.le_trans (List.length_filterMap_le ..) (by omega)
  have e : slicePick its.toArray none none (some (-1)) = (ks.filterMap (its[·]?)).toArray := by
    show ((ks.filterMap (its.toArray[·]?)).toArray) = _
    simp
  rw [e]
  refine ⟨.ref _, _, I4.laid (t' := s3.toks) (o := .lst (ks.filterMap (xs[·]?))) (fun b ob q => Heap.get?_push_of_some _ q) (Nat.le_refl _) ?_, rfl, q _ _ (I4.hok.fresh (Nat.le_refl _)) hy pick_mem⟩
  exact ⟨Nat.le_trans hy hz, _, 0, r.pick ks, Heap.get?_push_size _ rfl⟩
/-- a def with defaults -/
def IsDefD (P : Program) (w : World) (K : Frag) (mg : Str → Option Value) (base : Heap) (cm : Bool) (k : Nat) (x : Str) (ps : List Str) (dvs : List V) (sp : Sp) : Prop :=
  ∃ f fd ds, FnOk P w K mg base (CXF P w) cm k f fd ps sp ∧ mg x = some (.ref f) ∧ keepIn K (.ref f) = true ∧ Binds K fd ps ds ∧ Vals dvs ds
theorem pe_defD {cm : Bool} {k : Nat} {x : Str} {ps : List Str} {dvs : List V} {sp : Sp} {E : St → XK} {e : Expr} {es : List Expr} {t : TA} {p pos : Pos} (D : IsDefD X.prog X.w X.K X.mg X.base cm k x ps dvs sp) (hr : Room cm k X.A) (hx : Passes (CXF X.prog X.w) X E) (ha : PA X (e :: es) t) (hg : Gl X x := by rfl) (hdb : (x == ("__debug__" : Str)) = false := by decide)
    (he : starEach (e :: es) X.env = (false, eval e X.env) :: starEach es X.env := by rfl) (hpl : (backTo pos (starEach es X.env)).any (·.1) = false := by rfl) : PE X (.Call (.Name x p) (e :: es) [] pos) (tCall sp dvs E t) := by
  obtain ⟨f, fd, ds, ok, hm, hk, hb, hd⟩ := D
  exact pe_call ok hr hg hm hk hb hd hx ha hdb he hpl
end
theorem comp_enum {K : Frag} {a : Addr} {xs : List V} {ls : List Str} {js : List Nat} {g : TG} {tt : TT} {te : TE} {σ : St} {H1 : Hp} {D : Addr} {Q : VK} (Pv : Nat → List V → St → Hp → Prop)
    (h0 : Pv 0 [] (capσ ls js σ) (upd H1 D (.lst []))) (hl : ∀ i ys σ H, i ≤ xs.length → Pv i ys σ H → SqL K H a xs)
    (hs : ∀ i x T ys σ H, xs[i]? = some x → Pv i ys σ H → H T = none → g (.ref T) σ (upd H T (.tup [.int i, x])) fun σ2 H3 => tt σ2 H3 fun b H4 => if b = true then te σ2 H4 fun y H5 => H5 D = some (.lst ys) ∧ ys.length < sizeLine ∧ Pv (i + 1) (ys ++ [y]) σ2 (upd H5 D (.lst (ys ++ [y]))) else Pv (i + 1) ys σ2 H4)
    (hd : ∀ ys σ H, Pv xs.length ys σ H → Q (.ref D) H) :
    CompW (Ite K a) ls js g tt te σ H1 D Q :=
  comp_by (n := xs.length) Pv h0 (fun i ys σ H hi p => ⟨xs, xs[i], hl i ys σ H (Nat.le_of_lt hi) p, by simp [hi]⟩) (fun ys σ H p => ⟨xs, hl _ ys σ H (Nat.le_refl _) p, Nat.le_refl _⟩)
    (fun i ys σ H x H2 hi p y => by
      obtain ⟨T, z, rfl, hT, rfl, hy⟩ := y
      exact hs i z T ys σ H (hy xs (hl i ys σ H (Nat.le_of_lt hi) p)) p hT) hd
end L2

set_option Elab.async false
set_option linter.all false
set_option maxRecDepth 100000
set_option maxHeartbeats 4000000
/-! ways over open pairs, and the greatest worths -/
namespace QF
open PySem L2
/-- o is the greatest of S, none where S has nothing -/
def MaxOf (S : Int → Prop) : Option Int → Prop
  | none => ∀ v, ¬ S v
  | some m => S m ∧ ∀ v, S v → v ≤ m
theorem MaxOf.uniq {S : Int → Prop} {a b : Option Int} (ha : MaxOf S a) (hb : MaxOf S b) : a = b := by
  cases a with
  | none =>
    cases b with
    | none => rfl
    | some m => exact absurd hb.1 (ha m)
  | some n =>
    cases b with
    | none => exact absurd ha.1 (hb n)
    | some m =>
      have h1 := ha.2 m hb.1
      have h2 := hb.2 n ha.1
      congr 1
      omega
theorem MaxOf.iff {S T : Int → Prop} {a : Option Int} (ha : MaxOf S a) (h : ∀ v, S v ↔ T v) : MaxOf T a := by
  cases a with
  | none => exact fun v hv => ha v ((h v).mpr hv)
  | some m => exact ⟨(h m).mp ha.1, fun v hv => ha.2 v ((h v).mpr hv)⟩
def lessO : Option Int → Int → Option Int
  | none, _ => none
  | some v, p => some (v - p)
theorem MaxOf.less {S : Int → Prop} {a : Option Int} (ha : MaxOf S a) (p : Int) : MaxOf (fun v => ∃ u, S u ∧ v = u - p) (lessO a p) := by
  cases a with
  | none => exact fun v ⟨u, hu, _⟩ => ha u hu
  | some m =>
    refine ⟨⟨m, ha.1, rfl⟩, ?_⟩
    rintro v ⟨u, hu, rfl⟩
    have := ha.2 u hu
    omega
def mxO (l : List (Option Int)) : Option Int := (l.filterMap id).max?
theorem maxOf_list (l : List (Option Int)) : MaxOf (fun v => some v ∈ l) (mxO l) := by
  have key : ∀ v, v ∈ l.filterMap id ↔ some v ∈ l := fun v => by
    rw [List.mem_filterMap]
    exact ⟨fun ⟨o, ho, eo⟩ => by have eo : o = some v := eo; rw [eo] at ho; exact ho, fun h => ⟨some v, h, rfl⟩⟩
  unfold mxO
  cases e : (l.filterMap id).max? with
  | none =>
    rw [List.max?_eq_none_iff] at e
    intro v hv
    have := (key v).mpr hv
    rw [e] at this; cases this
  | some m =>
    rw [List.max?_eq_some_iff] at e
    exact ⟨(key m).mp e.1, fun v hv => e.2 v ((key v).mpr hv)⟩
theorem MaxOf.dom {S T : Int → Prop} {a : Option Int} (ha : MaxOf S a) (h1 : ∀ v, S v → T v) (h2 : ∀ v, T v → ∃ u, S u ∧ v ≤ u) : MaxOf T a := by
  cases a with
  | none =>
    intro v hv
    obtain ⟨u, hu, _⟩ := h2 v hv
    exact ha u hu
  | some m =>
    refine ⟨h1 m ha.1, fun v hv => ?_⟩
    obtain ⟨u, hu, hle⟩ := h2 v hv
    have := ha.2 u hu
    omega
theorem maxOf_three {S1 S2 S3 : Int → Prop} {a b c : Option Int} (h1 : MaxOf S1 a) (h2 : MaxOf S2 b) (h3 : MaxOf S3 c) : MaxOf (fun v => S1 v ∨ S2 v ∨ S3 v) (mxO [a, b, c]) := by
  refine (maxOf_list [a, b, c]).dom (fun v hv => ?_) (fun v hv => ?_)
  · simp only [List.mem_cons, List.not_mem_nil, or_false] at hv
    rcases hv with e | e | e
    · rw [← e] at h1; exact .inl h1.1
    · rw [← e] at h2; exact .inr (.inl h2.1)
    · rw [← e] at h3; exact .inr (.inr h3.1)
  · have one : ∀ {S : Int → Prop} {o : Option Int}, MaxOf S o → S v → o ∈ [a, b, c] → ∃ u, some u ∈ [a, b, c] ∧ v ≤ u := fun {S o} hm hs ho => by
      cases o with
      | none => exact absurd hs (hm v)
      | some m => exact ⟨m, ho, hm.2 v hs⟩
    rcases hv with hs | hs | hs
    · exact one h1 hs (by simp)
    · exact one h2 hs (by simp)
    · exact one h3 hs (by simp)
/-! ways over open pairs -/
def lastP (ps : List Pr) : Pr := pr ps (ps.length - 1)
def wW (c : Case) (ps : List Pr) : Int := worthAt c ps (ps.length - 1)
def OWay (c : Case) (shut : List Pr) (ps : List Pr) : Prop := isWay c ps = true ∧ ∀ p ∈ ps, p ∉ shut
def opn (c : Case) (shut : List Pr) (p : Pr) : Option Int := if p ∈ shut then none else c.pw p
theorem lastP_snoc {ps : List Pr} {p : Pr} : lastP (ps ++ [p]) = p := by
  unfold lastP
  rw [List.length_append]
  exact pr_last
theorem worth_snoc {c : Case} {ps : List Pr} {p : Pr} : ∀ {k : Nat}, k < ps.length → worthAt c (ps ++ [p]) k = worthAt c ps k
  | 0, h => by simp only [worthAt]; rw [pr_snoc h]
  | k + 1, h => by simp only [worthAt]; rw [pr_snoc h, pr_snoc (by omega : k < ps.length), worth_snoc (by omega : k < ps.length)]
theorem wW_one {c : Case} {p : Pr} {w : Int} (h : c.pw p = some w) : wW c [p] = w := by
  simp [wW, worthAt, pr, h]
theorem wW_snoc {c : Case} {ps : List Pr} {p : Pr} {w : Int} (hne : ps ≠ []) (h : c.pw p = some w) : wW c (ps ++ [p]) = w + wW c ps - c.gap (lastP ps) p := by
  have hp : 0 < ps.length := List.length_pos_iff.mpr hne
  obtain ⟨k, hk⟩ : ∃ k, ps.length = k + 1 := ⟨ps.length - 1, by omega⟩
  have e1 : (ps ++ [p]).length - 1 = k + 1 := by rw [List.length_append]; simp; omega
  unfold wW lastP
  rw [e1]
  have e2 : pr (ps ++ [p]) (k + 1) = p := by rw [← hk]; exact pr_last
  simp only [worthAt, e2, h, Option.getD_some]
  rw [pr_snoc (by omega : k < ps.length), worth_snoc (by omega : k < ps.length), hk]
  rfl
theorem OWay.one {c : Case} {shut : List Pr} {p : Pr} {w : Int} (h : opn c shut p = some w) : OWay c shut [p] := by
  unfold opn at h
  split at h
  · cases h
  · rename_i hs
    refine ⟨isWay_yes (by simp) fun k hk => ?_, fun q hq => ?_⟩
    · have : k = 0 := by simp at hk; exact hk
      subst this
      simp [goodAt, pr, h]
    · have : q = p := by simpa using hq
      rw [this]; exact hs
theorem OWay.snoc {c : Case} {shut : List Pr} {ps : List Pr} {p : Pr} {w : Int} (o : OWay c shut ps) (h : opn c shut p = some w) (st : stepOk (lastP ps) p = true) : OWay c shut (ps ++ [p]) := by
  obtain ⟨hne, hg⟩ := isWay_good o.1
  unfold opn at h
  split at h
  · cases h
  · rename_i hs
    refine ⟨isWay_yes (by simp) ?_, fun q hq => ?_⟩
    · rw [List.length_append]
      exact good_snoc hg (by rw [h]; rfl) (.inr st)
    · rcases List.mem_append.mp hq with hq | hq
      · exact o.2 q hq
      · have : q = p := by simpa using hq
        rw [this]; exact hs
theorem goodAt_snoc {c : Case} {ps : List Pr} {p : Pr} {k : Nat} (h : k < ps.length) : goodAt c (ps ++ [p]) k = goodAt c ps k := by
  simp only [goodAt]
  rw [pr_snoc h, pr_snoc (by omega : k - 1 < ps.length)]
theorem OWay.split {c : Case} {shut : List Pr} {ps : List Pr} (o : OWay c shut ps) : ∃ qs, ps = qs ++ [lastP ps] ∧ (∃ w, opn c shut (lastP ps) = some w) ∧ (qs = [] ∨ (OWay c shut qs ∧ stepOk (lastP qs) (lastP ps) = true)) := by
  obtain ⟨hne, hg⟩ := isWay_good o.1
  obtain ⟨qs, p, rfl⟩ : ∃ qs p, ps = qs ++ [p] := ⟨ps.dropLast, ps.getLast hne, (List.dropLast_concat_getLast hne).symm⟩
  rw [lastP_snoc]
  have gl := hg qs.length (by simp)
  simp only [goodAt, pr_last, Bool.and_eq_true] at gl
  refine ⟨qs, rfl, ?_, ?_⟩
  · obtain ⟨w, hw⟩ := Option.isSome_iff_exists.mp gl.1
    have := o.2 p (by simp)
    exact ⟨w, by simp [opn, this, hw]⟩
  · by_cases e : qs = []
    · exact .inl e
    · have hp : 0 < qs.length := List.length_pos_iff.mpr e
      refine .inr ⟨⟨isWay_yes e fun k hk => ?_, fun q hq => o.2 q (List.mem_append_left _ hq)⟩, ?_⟩
      · have := hg k (by simp; omega)
        rwa [goodAt_snoc hk] at this
      · have g2 := gl.2
        simp only [Bool.or_eq_true, decide_eq_true_eq] at g2
        rcases g2 with g2 | g2
        · omega
        · rw [pr_snoc (by omega : qs.length - 1 < qs.length)] at g2
          exact g2
theorem OWay.last_in {c : Case} {shut : List Pr} {ps : List Pr} (o : OWay c shut ps) : (0 ≤ (lastP ps).1 ∧ (lastP ps).1 < (c.xs.length : Int)) ∧ (0 ≤ (lastP ps).2 ∧ (lastP ps).2 < (c.ys.length : Int)) := by
  obtain ⟨qs, _, ⟨w, hw⟩, _⟩ := o.split
  unfold opn at hw
  split at hw
  · cases hw
  · exact c.pw_in hw
/-! the program's tables -/
def bog : Option Int → Option Int → Option Int
  | none, _ => none
  | some w, none => some w
  | some w, some b => if b < 0 then some w else some (w + b)
def Bq (f : Nat → Nat → Option Int) (o p : Int) : Nat → Nat → Option Int
  | 0, _ => none
  | _ + 1, 0 => none
  | i + 1, j + 1 => mxO [bog (f i j) (Bq f o p i j), lessO (Bq f o p i (j + 1)) o, lessO (Bq f o p (i + 1) j) p]
termination_by i j => (i, j)
def Eq' (f : Nat → Nat → Option Int) (o p : Int) (i j : Nat) : Option Int := bog (f i j) (Bq f o p i j)
def opf (c : Case) (shut : List Pr) (i j : Nat) : Option Int := opn c shut ((i : Int), (j : Int))
theorem step_iff {q p : Pr} : stepOk q p = true ↔ q.1 < p.1 ∧ q.2 < p.2 := by simp [stepOk]
end QF

set_option Elab.async false
set_option linter.all false
set_option maxRecDepth 100000
set_option maxHeartbeats 4000000
/-! all ways, listed; the tables of the law; promises of the tables' defs -/
namespace QF
open PySem L2
theorem optO_eq (o : Option Int) : optO o = optV o := by cases o <;> rfl
def newW (L : List (List Pr)) (p : Pr) : List (List Pr) := [p] :: (L.filter fun ps => stepOk (lastP ps) p).map (· ++ [p])
def befP (q : Pr) (i j : Nat) : Prop := q.1 < (i : Int) ∨ (q.1 = (i : Int) ∧ q.2 < (j : Int))
structure WI (c : Case) (shut : List Pr) (i j : Nat) (L : List (List Pr)) : Prop where
  mem : ∀ ps, ps ∈ L ↔ OWay c shut ps ∧ befP (lastP ps) i j
  len : ∃ L0 A, L = L0 ++ A ∧ (∀ ps ∈ A, (lastP ps).1 = (i : Int)) ∧ A.length ≤ j * (L0.length + 1) ∧ L0.length + 1 ≤ 6 ^ i
theorem WI.nil {c : Case} {shut : List Pr} : WI c shut 0 0 [] := by
  refine ⟨fun ps => ⟨(fun h => by cases h), fun ⟨o, b⟩ => ?_⟩, [], [], rfl, (fun ps h => by cases h), by simp, by simp⟩
  have := o.last_in
  rcases b with b | b
  · simp at b; omega
  · have := b.2; simp at this; omega
theorem WI.skip {c : Case} {shut : List Pr} {i j : Nat} {L : List (List Pr)} (w : WI c shut i j L) (h : opn c shut ((i : Int), (j : Int)) = none) : WI c shut i (j + 1) L := by
  obtain ⟨mem, L0, A, e, a1, a2, a3⟩ := w
  refine ⟨fun ps => ⟨fun hp => ?_, fun ⟨o, b⟩ => ?_⟩, L0, A, e, a1, ?_, a3⟩
  · obtain ⟨o, b⟩ := (mem ps).mp hp
    exact ⟨o, by unfold befP at *; omega⟩
  · refine (mem ps).mpr ⟨o, ?_⟩
    unfold befP at *
    by_cases hl : lastP ps = ((i : Int), (j : Int))
    · obtain ⟨qs, _, ⟨w, hw⟩, _⟩ := o.split
      rw [hl, h] at hw; cases hw
    · rcases b with b | b
      · exact .inl b
      · by_cases h2 : (lastP ps).2 = (j : Int)
        · exact absurd (Prod.ext b.1 h2) hl
        · exact .inr ⟨b.1, by omega⟩
  · rw [Nat.succ_mul]; omega
theorem WI.add {c : Case} {shut : List Pr} {i j : Nat} {L : List (List Pr)} (w : WI c shut i j L) {v : Int} (h : opn c shut ((i : Int), (j : Int)) = some v) : WI c shut i (j + 1) (L ++ newW L ((i : Int), (j : Int))) := by
  obtain ⟨mem, L0, A, e, a1, a2, a3⟩ := w
  have memN : ∀ ps, ps ∈ newW L ((i : Int), (j : Int)) ↔ ps = [((i : Int), (j : Int))] ∨ ∃ qs ∈ L, stepOk (lastP qs) ((i : Int), (j : Int)) = true ∧ ps = qs ++ [((i : Int), (j : Int))] := fun ps => by
    unfold newW
    rw [List.mem_cons, List.mem_map]
    constructor
    · rintro (h | ⟨qs, hq, rfl⟩)
      · exact .inl h
      · obtain ⟨h1, h2⟩ := List.mem_filter.mp hq
        exact .inr ⟨qs, h1, h2, rfl⟩
    · rintro (h | ⟨qs, h1, h2, rfl⟩)
      · exact .inl h
      · exact .inr ⟨qs, List.mem_filter.mpr ⟨h1, h2⟩, rfl⟩
  refine ⟨fun ps => ⟨fun hp => ?_, fun ⟨o, b⟩ => ?_⟩, L0, A ++ newW L ((i : Int), (j : Int)), by rw [e, List.append_assoc], ?_, ?_, a3⟩
  · rcases List.mem_append.mp hp with hp | hp
    · obtain ⟨o, b⟩ := (mem ps).mp hp
      exact ⟨o, by unfold befP at *; omega⟩
    · rcases (memN ps).mp hp with rfl | ⟨qs, h1, h2, rfl⟩
      · refine ⟨OWay.one h, .inr ?_⟩
        simp [lastP, pr]
        omega
      · refine ⟨((mem qs).mp h1).1.snoc h h2, .inr ?_⟩
        rw [lastP_snoc]
        simp
        omega
  · by_cases hl : lastP ps = ((i : Int), (j : Int))
    · refine List.mem_append_right _ ((memN ps).mpr ?_)
      obtain ⟨qs, eq, _, hq⟩ := o.split
      rw [hl] at eq hq
      rcases hq with rfl | ⟨oq, st⟩
      · exact .inl eq
      · refine .inr ⟨qs, (mem qs).mpr ⟨oq, .inl ?_⟩, st, eq⟩
        exact (step_iff.mp st).1
    · refine List.mem_append_left _ ((mem ps).mpr ⟨o, ?_⟩)
      unfold befP at *
      rcases b with b | b
      · exact .inl b
      · by_cases h2 : (lastP ps).2 = (j : Int)
        · exact absurd (Prod.ext b.1 h2) hl
        · exact .inr ⟨b.1, by omega⟩
  · intro ps hp
    rcases List.mem_append.mp hp with hp | hp
    · exact a1 ps hp
    · rcases (memN ps).mp hp with rfl | ⟨qs, _, _, rfl⟩
      · simp [lastP, pr]
      · rw [lastP_snoc]
  · have e0 : A.filter (fun ps => stepOk (lastP ps) ((i : Int), (j : Int))) = [] := by
      rw [List.filter_eq_nil_iff]
      intro ps hp
      have := a1 ps hp
      rw [step_iff]
      show ¬ ((lastP ps).1 < (i : Int) ∧ _)
      omega
    have el : (newW L ((i : Int), (j : Int))).length ≤ L0.length + 1 := by
      unfold newW
      rw [List.length_cons, List.length_map, e, List.filter_append, e0, List.append_nil]
      have := List.length_filter_le (fun ps => stepOk (lastP ps) ((i : Int), (j : Int))) L0
      omega
    rw [List.length_append, Nat.succ_mul]
    omega
theorem WI.few {c : Case} {shut : List Pr} {i j : Nat} {L : List (List Pr)} (w : WI c shut i j L) (hj : j ≤ 5) : L.length + 1 ≤ 6 ^ (i + 1) := by
  obtain ⟨mem, L0, A, e, a1, a2, a3⟩ := w
  have h1 : j * (L0.length + 1) ≤ 5 * (L0.length + 1) := Nat.mul_le_mul_right _ hj
  rw [e, List.length_append, Nat.pow_succ]
  omega
theorem WI.small {c : Case} {shut : List Pr} {i j : Nat} {L : List (List Pr)} (w : WI c shut i j L) (hj : j ≤ 5) (hi : i ≤ 5) : L.length ≤ 46656 := by
  have h1 := w.few hj
  have h2 : 6 ^ (i + 1) ≤ 6 ^ 6 := Nat.pow_le_pow_right (by decide) (by omega)
  have h3 : 6 ^ 6 = 46656 := by decide
  omega
theorem WI.row {c : Case} {shut : List Pr} {i j : Nat} {L : List (List Pr)} (w : WI c shut i j L) (hj : j = c.ys.length) (h5 : j ≤ 5) : WI c shut (i + 1) 0 L := by
  have few := w.few h5
  refine ⟨fun ps => ?_, L, [], by simp, (fun ps h => by cases h), by simp, few⟩
  rw [w.mem]
  constructor
  · rintro ⟨o, b⟩
    exact ⟨o, .inl (by unfold befP at b; omega)⟩
  · rintro ⟨o, b⟩
    have := o.last_in
    refine ⟨o, ?_⟩
    unfold befP at *
    omega
theorem WI.all {c : Case} {shut : List Pr} {i : Nat} {L : List (List Pr)} (w : WI c shut i 0 L) (hi : i = c.xs.length) (ps : List Pr) : ps ∈ L ↔ OWay c shut ps := by
  rw [w.mem]
  refine ⟨fun h => h.1, fun o => ⟨o, .inl ?_⟩⟩
  have := o.last_in
  omega
/-! lists of ways -/
def WaysL (H : Hp) (vs : List V) (L : List (List Pr)) : Prop := vs.length = L.length ∧ ∀ (k : Nat) (ps : List Pr), L[k]? = some ps → ∃ a us, vs[k]? = some (V.ref a) ∧ H a = some (.lst us) ∧ Prs H us ps
def NoRef (l : Addr) (vs : List V) : Prop := ∀ k : Nat, vs[k]? ≠ some (V.ref l)
theorem WaysL.nil {H : Hp} : WaysL H [] [] := ⟨rfl, fun k ps e => by simp at e⟩
theorem WaysL.same {H H' : Hp} {vs : List V} {L : List (List Pr)} (w : WaysL H vs L) (s : Same H H') : WaysL H' vs L := ⟨w.1, fun k ps e => let ⟨a, us, h1, h2, h3⟩ := w.2 k ps e; ⟨a, us, h1, s _ _ h2, h3.same s⟩⟩
theorem WaysL.put {H : Hp} {vs : List V} {L : List (List Pr)} {l : Addr} {zs : List V} {o : HO} (w : WaysL H vs L) (n : NoRef l vs) (h : H l = some (.lst zs)) : WaysL (upd H l o) vs L := ⟨w.1, fun k ps e => by
  obtain ⟨a, us, h1, h2, h3⟩ := w.2 k ps e
  refine ⟨a, us, h1, ?_, h3.tups (Tups.lst h)⟩
  rw [upd_ne (fun z => n k (by rw [h1, z]))]
  exact h2⟩
theorem WaysL.append {H : Hp} {vs ws : List V} {L M : List (List Pr)} (a : WaysL H vs L) (b : WaysL H ws M) : WaysL H (vs ++ ws) (L ++ M) := by
  refine ⟨by simp [a.1, b.1], fun i p e => ?_⟩
  by_cases h : i < L.length
  · rw [List.getElem?_append_left h] at e
    obtain ⟨x, us, h1, h2⟩ := a.2 i p e
    exact ⟨x, us, by rw [List.getElem?_append_left (by rw [a.1]; exact h)]; exact h1, h2⟩
  · rw [List.getElem?_append_right (by omega)] at e
    obtain ⟨x, us, h1, h2⟩ := b.2 _ p e
    exact ⟨x, us, by rw [List.getElem?_append_right (by rw [a.1]; omega), a.1]; exact h1, h2⟩
theorem WaysL.one {H : Hp} {a : Addr} {us : List V} {ps : List Pr} (h : H a = some (.lst us)) (P : Prs H us ps) : WaysL H [.ref a] [ps] := by
  refine ⟨rfl, fun i q e => ?_⟩
  match i, e with
  | 0, e => cases e; exact ⟨a, us, rfl, h, P⟩
  | i + 1, e => simp at e
theorem NoRef.append {l : Addr} {vs ws : List V} (a : NoRef l vs) (b : NoRef l ws) : NoRef l (vs ++ ws) := fun k e => by
  by_cases h : k < vs.length
  · rw [List.getElem?_append_left h] at e
    exact a k e
  · rw [List.getElem?_append_right (by omega)] at e
    exact b _ e
theorem NoRef.one {l a : Addr} (h : a ≠ l) : NoRef l [.ref a] := fun k e => by
  match k, e with
  | 0, e => simp at e; exact h e
  | k + 1, e => simp at e
/-! the greatest so far -/
def bumpO : Option Int → Int → Option Int
  | none, v => some v
  | some m, v => if m < v then some v else some m
theorem MaxOf.bump {S : Int → Prop} {a : Option Int} (h : MaxOf S a) (v : Int) : MaxOf (fun u => S u ∨ u = v) (bumpO a v) := by
  cases a with
  | none =>
    refine ⟨.inr rfl, ?_⟩
    rintro u (hu | rfl)
    · exact absurd hu (h u)
    · exact Int.le_refl _
  | some m =>
    simp only [bumpO]
    split
    · refine ⟨.inr rfl, ?_⟩
      rintro u (hu | rfl)
      · have := h.2 u hu; omega
      · exact Int.le_refl _
    · refine ⟨.inl h.1, ?_⟩
      rintro u (hu | rfl)
      · exact h.2 u hu
      · omega
def setP (F : Pr → Option Int) (p : Pr) (v : Option Int) : Pr → Option Int := fun q => if q = p then v else F q
/-- what is due so far: the ways before the k-th, and of the k-th the first t pairs -/
def DueS (c : Case) (sel : List Pr → Pr → Bool) (L : List (List Pr)) (k t : Nat) (p : Pr) (v : Int) : Prop :=
  (∃ ps ∈ L.take k, p ∈ ps ∧ sel ps p = true ∧ v = wW c ps) ∨ (∃ ps, L[k]? = some ps ∧ p ∈ ps.take t ∧ sel ps p = true ∧ v = wW c ps)
def Due (c : Case) (sel : List Pr → Pr → Bool) (L : List (List Pr)) (k t : Nat) (F : Pr → Option Int) : Prop := ∀ p, MaxOf (DueS c sel L k t p) (F p)
theorem Due.nil {c : Case} {sel : List Pr → Pr → Bool} {L : List (List Pr)} : Due c sel L 0 0 (fun _ => none) := by
  rintro p v (⟨ps, h, _⟩ | ⟨ps, _, h, _⟩)
  · simp at h
  · simp at h
theorem Due.next {c : Case} {sel : List Pr → Pr → Bool} {L : List (List Pr)} {k : Nat} {ps : List Pr} {F : Pr → Option Int} (d : Due c sel L k ps.length F) (e : L[k]? = some ps) : Due c sel L (k + 1) 0 F := fun p => by
  refine (d p).iff fun v => ?_
  unfold DueS
  constructor
  · rintro (⟨qs, h1, h2⟩ | ⟨qs, h1, h2, h3⟩)
    · exact .inl ⟨qs, List.mem_of_mem_take (i := k) (by rw [List.take_take, Nat.min_eq_left (Nat.le_succ k)]; exact h1), h2⟩
    · rw [e] at h1
      cases h1
      rw [List.take_length] at h2
      refine .inl ⟨ps, ?_, h2, h3⟩
      rw [List.take_succ, e]
      simp
  · rintro (⟨qs, h1, h2, h3⟩ | ⟨qs, _, h2, _⟩)
    · rw [List.take_succ, e] at h1
      rcases List.mem_append.mp h1 with h1 | h1
      · exact .inl ⟨qs, h1, h2, h3⟩
      · have : qs = ps := by simpa using h1
        subst this
        exact .inr ⟨qs, e, by rw [List.take_length]; exact h2, h3⟩
    · simp at h2
theorem Due.skip {c : Case} {sel : List Pr → Pr → Bool} {L : List (List Pr)} {k t : Nat} {ps : List Pr} {q : Pr} {F : Pr → Option Int} (d : Due c sel L k t F) (e : L[k]? = some ps) (eq : ps[t]? = some q) (h : sel ps q = false) : Due c sel L k (t + 1) F := fun p => by
  refine (d p).iff fun v => ?_
  unfold DueS
  constructor
  · rintro (h1 | ⟨qs, h1, h2, h3⟩)
    · exact .inl h1
    · exact .inr ⟨qs, h1, by rw [List.take_succ]; exact List.mem_append_left _ h2, h3⟩
  · rintro (h1 | ⟨qs, h1, h2, h3, h4⟩)
    · exact .inl h1
    · rw [e] at h1
      cases h1
      rw [List.take_succ, eq] at h2
      rcases List.mem_append.mp h2 with h2 | h2
      · exact .inr ⟨ps, e, h2, h3, h4⟩
      · have : p = q := by simpa using h2
        subst this
        rw [h] at h3; cases h3
theorem Due.put {c : Case} {sel : List Pr → Pr → Bool} {L : List (List Pr)} {k t : Nat} {ps : List Pr} {q : Pr} {F : Pr → Option Int} (d : Due c sel L k t F) (e : L[k]? = some ps) (eq : ps[t]? = some q) (h : sel ps q = true) : Due c sel L k (t + 1) (setP F q (bumpO (F q) (wW c ps))) := fun p => by
  by_cases hp : p = q
  · subst hp
    have : setP F p (bumpO (F p) (wW c ps)) p = bumpO (F p) (wW c ps) := by simp [setP]
    rw [this]
    refine ((d p).bump (wW c ps)).iff fun v => ?_
    unfold DueS
    constructor
    · rintro ((h1 | ⟨qs, h1, h2, h3⟩) | rfl)
      · exact .inl h1
      · exact .inr ⟨qs, h1, by rw [List.take_succ]; exact List.mem_append_left _ h2, h3⟩
      · exact .inr ⟨ps, e, by rw [List.take_succ, eq]; simp, h, rfl⟩
    · rintro (h1 | ⟨qs, h1, h2, h3, h4⟩)
      · exact .inl (.inl h1)
      · rw [e] at h1
        cases h1
        exact .inr h4
  · have : setP F q (bumpO (F q) (wW c ps)) p = F p := by simp [setP, hp]
    rw [this]
    refine (d p).iff fun v => ?_
    unfold DueS
    constructor
    · rintro (h1 | ⟨qs, h1, h2, h3⟩)
      · exact .inl h1
      · exact .inr ⟨qs, h1, by rw [List.take_succ]; exact List.mem_append_left _ h2, h3⟩
    · rintro (h1 | ⟨qs, h1, h2, h3, h4⟩)
      · exact .inl h1
      · rw [e] at h1
        cases h1
        rw [List.take_succ, eq] at h2
        rcases List.mem_append.mp h2 with h2 | h2
        · exact .inr ⟨ps, e, h2, h3, h4⟩
        · exact absurd (by simpa using h2) hp
theorem Due.same {c : Case} {sel : List Pr → Pr → Bool} {L : List (List Pr)} {k t : Nat} {ps : List Pr} {q : Pr} {F : Pr → Option Int} {m : Int} (d : Due c sel L k t F) (e : L[k]? = some ps) (eq : ps[t]? = some q) (hm : F q = some m) (hle : ¬ m < wW c ps) (h : sel ps q = true) : Due c sel L k (t + 1) F := by
  have := d.put e eq h
  have e2 : setP F q (bumpO (F q) (wW c ps)) = F := by
    funext p
    simp only [setP]
    split
    · rename_i hp
      rw [hp, hm]
      simp [bumpO, hle]
    · rfl
  rw [e2] at this
  exact this
theorem Due.fin {c : Case} {sel : List Pr → Pr → Bool} {L : List (List Pr)} {F : Pr → Option Int} (d : Due c sel L L.length 0 F) (p : Pr) : MaxOf (fun v => ∃ ps ∈ L, p ∈ ps ∧ sel ps p = true ∧ v = wW c ps) (F p) := by
  refine (d p).iff fun v => ?_
  unfold DueS
  rw [List.take_length]
  constructor
  · rintro (h | ⟨ps, h, _⟩)
    · exact h
    · simp at h
  · exact .inl
/-! tables in the heap -/
def rowV (m : Nat) (f : Nat → Option Int) : List V := (List.range m).map fun j => optV (f j)
theorem rowV_len (m : Nat) (f : Nat → Option Int) : (rowV m f).length = m := by simp [rowV]
theorem rowV_at {m j : Nat} {f : Nat → Option Int} (h : j < m) : (rowV m f)[j]? = some (optV (f j)) := by simp [rowV, h]
theorem rowV_succ (m : Nat) (f : Nat → Option Int) : rowV (m + 1) f = rowV m f ++ [optV (f m)] := by simp [rowV, List.range_succ]
structure TabA (H : Hp) (as : List Addr) (f : Nat → Nat → Option Int) (n m : Nat) : Prop where
  len : as.length = n
  row : ∀ (i : Nat) (a : Addr), as[i]? = some a → H a = some (.lst (rowV m (f i)))
theorem TabA.same {H H' : Hp} {as : List Addr} {f : Nat → Nat → Option Int} {n m : Nat} (t : TabA H as f n m) (s : Same H H') : TabA H' as f n m := ⟨t.len, fun i a e => s _ _ (t.row i a e)⟩
theorem TabA.at {H : Hp} {as : List Addr} {f : Nat → Nat → Option Int} {n m i : Nat} (t : TabA H as f n m) (h : i < n) : ∃ a, as[i]? = some a ∧ (as.map V.ref)[i]? = some (.ref a) ∧ H a = some (.lst (rowV m (f i))) := by
  have hi : i < as.length := by rw [t.len]; exact h
  refine ⟨as[i], by simp [hi], by simp [hi], t.row i _ (by simp [hi])⟩
/-- a table that was made since H -/
def Tab (H H' : Hp) (e : Addr) (f : Nat → Nat → Option Int) (n m : Nat) : Prop := ∃ as : List Addr, H' e = some (.lst (as.map V.ref)) ∧ H e = none ∧ TabA H' as f n m ∧ ∀ a ∈ as, H a = none
/-! trails -/
structure TrailsC (K : W.Frag) (C : Addr) : Prop where
  cl : Cls K C
  out : NoAttr K C "out"
  into : NoAttr K C "into"
  ending : NoAttr K C "ending"
  brought : NoAttr K C "brought"
def tflds (o p : Int) (e b : Addr) : List (Str × V) := [("out", .int o), ("into", .int p), ("ending", .ref e), ("brought", .ref b)]
theorem t_out (o p : Int) (e b : Addr) : (tflds o p e b).lookup ("out" : Str) = some (V.int o) := by kernel_rfl
theorem t_into (o p : Int) (e b : Addr) : (tflds o p e b).lookup ("into" : Str) = some (V.int p) := by kernel_rfl
theorem t_ending (o p : Int) (e b : Addr) : (tflds o p e b).lookup ("ending" : Str) = some (V.ref e) := by kernel_rfl
theorem t_brought (o p : Int) (e b : Addr) : (tflds o p e b).lookup ("brought" : Str) = some (V.ref b) := by kernel_rfl
theorem t_behind (o p : Int) (e b : Addr) : (tflds o p e b).lookup ("brought_behind" : Str) = none := by kernel_rfl
theorem t_put (o p : Int) (e b : Addr) : putF "brought" (.ref b) (putF "ending" (.ref e) (putF "into" (.int p) (putF "out" (.int o) []))) = tflds o p e b := by kernel_rfl
def rowB (f g : Nat → Option Int) (o p : Int) : Nat → Option Int
  | 0 => none
  | j + 1 => mxO [f j, lessO (g (j + 1)) o, lessO (rowB f g o p j) p]
theorem rowB_eq (f : Nat → Nat → Option Int) (o p : Int) (i : Nat) : ∀ j, rowB (Eq' f o p i) (Bq f o p i) o p j = Bq f o p (i + 1) j
  | 0 => by unfold rowB Bq; rfl
  | j + 1 => by
    rw [rowB, Bq, rowB_eq f o p i j]
    rfl
theorem Bq_zero (f : Nat → Nat → Option Int) (o p : Int) (j : Nat) : Bq f o p 0 j = none := by unfold Bq; rfl
inductive sp_greatest (vs : List V) (H : Hp) (Q : VK) (u3 : XK) : Prop
  | mk (a : Addr) (os : List (Option Int)) (_ : vs = [.ref a]) (_ : H a = some (.lst (os.map optV))) (_ : os.length ≤ 1000) (_ : ∀ H', Same H H' → Q (optV (mxO os)) H') : sp_greatest  vs H Q u3
inductive sp_less (vs : List V) (H : Hp) (Q : VK) (u3 : XK) : Prop
  | mk (o : Option Int) (p : Int) (_ : vs = [optV o, .int p]) (_ : Q (optV (lessO o p)) H) : sp_less  vs H Q u3
inductive sp_bog (vs : List V) (H : Hp) (Q : VK) (u3 : XK) : Prop
  | mk (w b : Option Int) (_ : vs = [optV w, optV b]) (_ : Q (optV (bog w b)) H) : sp_bog  vs H Q u3
inductive sp_behind (C : Addr) (vs : List V) (H : Hp) (Q : VK) (u3 : XK) : Prop
  | mk (x e a dx te tb : Addr) (o p : Int) (m : Nat) (f g : Nat → Option Int) (_ : vs = [.ref x, .ref e, .ref a]) (_ : H x = some (.ins C dx (tflds o p te tb))) (_ : H e = some (.lst (rowV m f))) (_ : H a = some (.lst (rowV (m + 1) g))) (_ : m ≤ 1000) (_ : ∀ H' r, Same H H' → H r = none → H' r = some (.lst (rowV (m + 1) (rowB f g o p))) → Q (.ref r) H') : sp_behind C vs H Q u3
inductive sp_tinit (C CT : Addr) (vs : List V) (H : Hp) (Q : VK) (u3 : XK) : Prop
  | mk (x dx w t : Addr) (c : Case) (as : List Addr) (f : Nat → Nat → Option Int) (n m : Nat) (_ : vs = [.ref x, .ref w, .ref t]) (_ : H x = some (.ins C dx [])) (_ : H dx = some (.own x)) (_ : H w = some (.lst (as.map V.ref))) (_ : TabA H as f n m) (_ : TFor H CT t c) (_ : n ≤ 1000) (_ : m ≤ 1000) (_ : ∀ H' e b, SameBut x H H' → H' x = some (.ins C dx (tflds c.out c.into e b)) → Tab H H' e (Eq' f c.out c.into) n m → Q .non H') : sp_tinit C CT vs H Q u3
/-- taken pairs -/
def TakenV (H : Hp) (v : V) (shut : List Pr) : Prop := (v = .non ∧ shut = []) ∨ ∃ l us, v = .ref l ∧ H l = some (.lst us) ∧ Prs H us shut
def keyP (p : Pr) : List Key := [.inl p.1, .inl p.2]
def ShutD (kvs : List (List Key × V)) (shut : List Pr) : Prop := ∀ p : Pr, (valV kvs (keyP p)).isSome = decide (p ∈ shut)
inductive sp_shut (vs : List V) (H : Hp) (Q : VK) (u3 : XK) : Prop
  | mk (v : V) (shut : List Pr) (_ : vs = [v]) (_ : TakenV H v shut) (_ : shut.length ≤ 1000) (_ : ∀ H' d kvs, Same H H' → H' d = some (.dT kvs) → ShutD kvs shut → Q (.ref d) H') : sp_shut  vs H Q u3
inductive sp_open (CT : Addr) (vs : List V) (H : Hp) (Q : VK) (u3 : XK) : Prop
  | mk (f g t : Addr) (v : V) (c : Case) (shut : List Pr) (_ : vs = [.ref f, .ref g, .ref t, v]) (_ : H f = some (.lst (c.xs.map V.str))) (_ : H g = some (.lst (c.ys.map V.str))) (_ : TFor H CT t c) (_ : TakenV H v shut) (_ : shut.length ≤ 1000) (_ : c.xs.length ≤ 1000) (_ : c.ys.length ≤ 1000) (_ : ∀ H' e, Same H H' → Tab H H' e (opf c shut) c.xs.length c.ys.length → Q (.ref e) H') : sp_open CT vs H Q u3
inductive sp_best (CT : Addr) (F : Case → List Pr → Nat → Nat → Option Int) (vs : List V) (H : Hp) (Q : VK) (u3 : XK) : Prop
  | mk (f g t : Addr) (v : V) (c : Case) (shut : List Pr) (_ : vs = [.ref f, .ref g, .ref t, v]) (_ : H f = some (.lst (c.xs.map V.str))) (_ : H g = some (.lst (c.ys.map V.str))) (_ : TFor H CT t c) (_ : TakenV H v shut) (_ : shut.length ≤ 1000) (_ : c.xs.length ≤ 1000) (_ : c.ys.length ≤ 1000) (_ : ∀ H' e, Same H H' → Tab H H' e (F c shut) c.xs.length c.ys.length → Q (.ref e) H') : sp_best CT F vs H Q u3
def endF (c : Case) (shut : List Pr) : Nat → Nat → Option Int := Eq' (opf c shut) c.out c.into
inductive sp_asked (CT : Addr) (F : Case → List Pr → Nat → Nat → Option Int) (vs : List V) (H : Hp) (Q : VK) (u3 : XK) : Prop
  | mk (a t s0 : Addr) (how : Int) (c : Case) (f g m l : Addr) (us ss : List V) (shut : List Pr) (_ : vs = [.ref a, .ref t, .ref s0, .int how]) (_ : CaseL H a c f g m l us) (_ : TFor H CT t c) (_ : H s0 = some (.lst ss)) (_ : Prs H ss shut) (_ : ((how = 0 ∨ how = 1) → shut = [])) (_ : shut.length ≤ 1000) (_ : c.xs.length ≤ 1000) (_ : c.ys.length ≤ 1000) (_ : ∀ H' e, Same H H' → Tab H H' e (F c shut) c.xs.length c.ys.length → Q (.ref e) H') : sp_asked CT F vs H Q u3
inductive sp_lways (vs : List V) (H : Hp) (Q : VK) (u3 : XK) : Prop
  | mk (a s0 : Addr) (c : Case) (f g m l : Addr) (us ss : List V) (shut : List Pr) (_ : vs = [.ref a, .ref s0]) (_ : CaseL H a c f g m l us) (_ : H s0 = some (.lst ss)) (_ : Prs H ss shut) (_ : shut.length ≤ 1000) (_ : c.xs.length ≤ 5) (_ : c.ys.length ≤ 5) (_ : ∀ H' w ws L, Same H H' → H' w = some (.lst ws) → WaysL H' ws L → L.length ≤ 50000 → (∀ ps, ps ∈ L ↔ OWay c shut ps) → Q (.ref w) H') : sp_lways  vs H Q u3
inductive sp_ltaken (vs : List V) (H : Hp) (Q : VK) (u3 : XK) : Prop
  | mk (a : Addr) (x y : Int) (c : Case) (f g m l : Addr) (us : List V) (_ : vs = [.ref a, .int x, .int y]) (_ : CaseL H a c f g m l us) (_ : c.xs.length ≤ 5) (_ : c.ys.length ≤ 5) (_ : ∀ H' b xs ps, Same H H' → H' b = some (.lst xs) → Prs H' xs ps → ps.length ≤ 200 → Q (.ref b) H') : sp_ltaken  vs H Q u3
inductive sp_ltable (vs : List V) (H : Hp) (Q : VK) (u3 : XK) : Prop
  | mk (e d : Addr) (as bs : List Addr) (f : Nat → Nat → Option Int) (n m : Nat) (_ : vs = [.ref e, .ref d]) (_ : H e = some (.lst (as.map V.ref))) (_ : H d = some (.lst (bs.map V.ref))) (_ : TabA H as f n m) (_ : TabA H bs f n m) (_ : n ≤ 1000) (_ : m ≤ 1000) (_ : Q (.bl true) H) : sp_ltable  vs H Q u3
end QF

set_option Elab.async false
set_option linter.all false
set_option maxRecDepth 100000
set_option maxHeartbeats 4000000
namespace QF
open PySem L2
theorem prs_of {H : Hp} : ∀ {ys : List V}, (∀ z ∈ ys, ∃ t p, z = .ref t ∧ H t = some (.tup (prV p))) → ∃ ps, Prs H ys ps
  | [], _ => ⟨[], .nil⟩
  | z :: ys, h => by
    obtain ⟨ps, P⟩ := prs_of (ys := ys) fun z hz => h z (List.mem_cons_of_mem _ hz)
    obtain ⟨t, p, rfl, ht⟩ := h z List.mem_cons_self
    exact ⟨[p] ++ ps, (Prs.one ht).append P⟩
theorem Prs.each {H : Hp} {xs : List V} {ps : List Pr} (P : Prs H xs ps) : ∀ z ∈ xs, ∃ t p, z = .ref t ∧ H t = some (.tup (prV p)) := fun z hz => by
  obtain ⟨i, hi, rfl⟩ := List.mem_iff_getElem.mp hz
  obtain ⟨t, h1, h2⟩ := P.atN (k := i) (by rw [← P.1]; exact hi)
  rw [List.getElem?_eq_getElem hi] at h1
  exact ⟨t, _, Option.some.inj h1, h2⟩
theorem Prs.last {H : Hp} {xs : List V} {ps : List Pr} (P : Prs H xs ps) (hne : ps ≠ []) : ∃ t, atI xs (-1) = some (.ref t) ∧ H t = some (.tup [.int (lastP ps).1, .int (lastP ps).2]) := by
  have hp : 0 < ps.length := List.length_pos_iff.mpr hne
  have hl := P.1
  obtain ⟨t, h1, h2⟩ := P.atN (k := ps.length - 1) (by omega)
  refine ⟨t, ?_, h2⟩
  have e : xs = xs.take (ps.length - 1) ++ [V.ref t] := by
    apply List.ext_getElem?
    intro n
    by_cases hn : n < ps.length - 1
    · rw [List.getElem?_append_left (by rw [List.length_take]; omega), List.getElem?_take, if_pos hn]
    · rw [List.getElem?_append_right (by rw [List.length_take]; omega), List.length_take]
      by_cases hn2 : n = ps.length - 1
      · subst hn2
        rw [h1]
        have : ps.length - 1 - min (ps.length - 1) xs.length = 0 := by omega
        rw [this]; rfl
      · rw [List.getElem?_eq_none (by omega), List.getElem?_eq_none (by simp; omega)]
  rw [e]
  exact atI_last _ _
theorem Prs.tl {H : Hp} {us : List V} {ps : List Pr} (P : Prs H us ps) : TL H us (ps.map prV) := by
  refine ⟨by simp [P.1], fun i c e => ?_⟩
  rw [List.getElem?_map] at e
  cases ep : ps[i]? with
  | none => rw [ep] at e; cases e
  | some p =>
    rw [ep] at e
    have e : prV p = c := Option.some.inj e
    obtain ⟨t, h1, h2⟩ := P.2 i p ep
    exact ⟨t, h1, by rw [← e]; exact h2, by rw [← e]; rfl⟩
theorem Prs.noRef {H : Hp} {us : List V} {ps : List Pr} {p : Addr} (P : Prs H us ps) (h : H p = none) : ∀ i : Nat, us[i]? ≠ some (V.ref p) := fun i e => by
  have hi : i < ps.length := by rw [← P.1]; exact (List.getElem?_eq_some_iff.mp e).1
  obtain ⟨t, h1, h2⟩ := P.atN hi
  rw [h1] at e
  cases e
  rw [h] at h2; cases h2
theorem eqTs_pr (p q : Pr) : eqTs (prV p) (prV q) = decide (p = q) := by
  simp only [prV, eqTs, eqV, Bool.and_true]
  rw [Bool.eq_iff_iff]
  simp [Prod.ext_iff]
theorem any_prV (shut : List Pr) (q : Pr) : ((shut.map prV).any fun c => eqTs c (prV q)) = decide (q ∈ shut) := by
  rw [Bool.eq_iff_iff, List.any_eq_true, decide_eq_true_iff]
  constructor
  · rintro ⟨c, hc, h⟩
    obtain ⟨p, hp, rfl⟩ := List.mem_map.mp hc
    rw [eqTs_pr, decide_eq_true_iff] at h
    rw [← h]; exact hp
  · intro h
    exact ⟨prV q, List.mem_map.mpr ⟨q, h, rfl⟩, by rw [eqTs_pr]; simp⟩
theorem OWay.ge {c : Case} {shut : List Pr} {ps : List Pr} (o : OWay c shut ps) : ∀ {k : Nat}, k < ps.length → (k : Int) ≤ (pr ps k).1
  | 0, h => by
    obtain ⟨_, g⟩ := isWay_good o.1
    obtain ⟨w, hw⟩ := good_pw (g 0 h)
    have := (c.pw_in hw).1.1
    simpa using this
  | k + 1, h => by
    obtain ⟨_, g⟩ := isWay_good o.1
    have h1 := good_step2 (g (k + 1) h)
    have h2 := o.ge (k := k) (by omega)
    omega
theorem OWay.len {c : Case} {shut : List Pr} {ps : List Pr} (o : OWay c shut ps) : ps.length ≤ c.xs.length := by
  have hp : 0 < ps.length := List.length_pos_iff.mpr (isWay_good o.1).1
  have h1 := o.ge (k := ps.length - 1) (by omega)
  have h2 := o.last_in.1.2
  unfold lastP at h2
  omega
theorem OWay.pair_in {c : Case} {shut : List Pr} {ps : List Pr} (o : OWay c shut ps) {k : Nat} (h : k < ps.length) : (0 ≤ (pr ps k).1 ∧ (pr ps k).1 < (c.xs.length : Int)) ∧ (0 ≤ (pr ps k).2 ∧ (pr ps k).2 < (c.ys.length : Int)) := by
  obtain ⟨_, g⟩ := isWay_good o.1
  obtain ⟨w, hw⟩ := good_pw (g k h)
  exact c.pw_in hw
theorem Tab.older {H H1 H' : Hp} {e : Addr} {f : Nat → Nat → Option Int} {n m : Nat} (t : Tab H1 H' e f n m) (s : Same H H1) : Tab H H' e f n m := by
  obtain ⟨as, h1, h2, h3, h4⟩ := t
  exact ⟨as, h1, s.free h2, h3, fun a ha => s.free (h4 a ha)⟩
theorem Tab.ne {H' : Hp} {e : Addr} {as : List Addr} {f : Nat → Nat → Option Int} {n m : Nat} (h : H' e = some (.lst (as.map V.ref))) (t : TabA H' as f n m) : ∀ a ∈ as, a ≠ e := fun a ha z => by
  obtain ⟨i, hi, rfl⟩ := List.mem_iff_getElem.mp ha
  have h2 := t.row i as[i] (by simp [hi])
  rw [z, h] at h2
  have h3 : as.map V.ref = rowV m (f i) := by injection h2 with h2; injection h2
  have h4 := congrArg (·[0]?) h3
  have h0 : 0 < as.length := by omega
  simp only [List.getElem?_map, List.getElem?_eq_getElem h0, Option.map_some] at h4
  cases m with
  | zero => simp [rowV] at h4
  | succ m =>
    rw [rowV_at (Nat.succ_pos m)] at h4
    cases e0 : f i 0 with
    | none => rw [e0] at h4; simp [optV] at h4
    | some v => rw [e0] at h4; simp [optV] at h4
theorem TabA.congr {H : Hp} {as : List Addr} {f g : Nat → Nat → Option Int} {n m : Nat} (t : TabA H as f n m) (h : ∀ i j, f i j = g i j) : TabA H as g n m := by
  have : f = g := by funext i j; exact h i j
  rw [← this]; exact t
/-- the law's table so far, made since B -/
structure DueT (B H' : Hp) (D : Addr) (as : List Addr) (F : Pr → Option Int) (n m : Nat) : Prop where
  d : H' D = some (.lst (as.map V.ref))
  d0 : B D = none
  nd : as.Nodup
  nD : D ∉ as
  fr : ∀ a ∈ as, B a = none
  tab : TabA H' as (fun i j => F ((i : Int), (j : Int))) n m
theorem DueT.same {B H' H2 : Hp} {D : Addr} {as : List Addr} {F : Pr → Option Int} {n m : Nat} (t : DueT B H' D as F n m) (s : Same H' H2) : DueT B H2 D as F n m := ⟨s _ _ t.d, t.d0, t.nd, t.nD, t.fr, t.tab.same s⟩
theorem rowV_set {m j : Nat} {f : Nat → Option Int} {u : Option Int} : (rowV m f).set j (optV u) = rowV m (fun k => if k = j then u else f k) := by
  apply List.ext_getElem?
  intro k
  by_cases hk : k < m
  · rw [rowV_at hk]
    by_cases e : j = k
    · subst e
      rw [List.getElem?_set_self (by rw [rowV_len]; exact hk)]
      simp
    · rw [List.getElem?_set_ne e, rowV_at hk]
      have : ¬ k = j := fun z => e z.symm
      simp [this]
  · rw [List.getElem?_eq_none (by rw [List.length_set, rowV_len]; omega), List.getElem?_eq_none (by rw [rowV_len]; omega)]
theorem DueT.put {B H' : Hp} {D a : Addr} {as : List Addr} {F : Pr → Option Int} {n m i j : Nat} {u : Option Int} (t : DueT B H' D as F n m) (ha : as[i]? = some a) : DueT B (upd H' a (.lst ((rowV m fun j => F ((i : Int), (j : Int))).set j (optV u)))) D as (setP F ((i : Int), (j : Int)) u) n m := by
  have hm := List.mem_of_getElem? ha
  have nDa : D ≠ a := fun z => t.nD (z ▸ hm)
  refine ⟨by rw [upd_ne nDa]; exact t.d, t.d0, t.nd, t.nD, t.fr, t.tab.len, fun k b hb => ?_⟩
  by_cases e : b = a
  · have ek : k = i := by
      obtain ⟨h1, e1⟩ := List.getElem?_eq_some_iff.mp hb
      obtain ⟨h2, e2⟩ := List.getElem?_eq_some_iff.mp ha
      exact (List.getElem_inj t.nd).mp (by rw [e1, e2, e])
    subst ek e
    rw [upd_same, rowV_set]
    congr 2
    unfold rowV
    apply List.map_congr_left
    intro q _
    simp only [setP]
    congr 1
    by_cases eq : q = j
    · simp [eq]
    · have : ¬ ((k : Int), (q : Int)) = ((k : Int), (j : Int)) := fun z => eq (by have := congrArg Prod.snd z; simp only at this; omega)
      simp [eq, this]
  · rw [upd_ne e, t.tab.row k b hb]
    congr 2
    unfold rowV
    apply List.map_congr_left
    intro q _
    simp only [setP]
    have : ¬ ((k : Int), (q : Int)) = ((i : Int), (j : Int)) := fun z => by
      have hk : k = i := by have := congrArg Prod.fst z; simp only at this; omega
      subst hk
      rw [ha] at hb
      exact e (Option.some.inj hb).symm
    simp [this]
theorem DueT.fresh {B H' : Hp} {D a : Addr} {as : List Addr} {F : Pr → Option Int} {n m : Nat} {u : HO} (t : DueT B H' D as F n m) (s : Same B H') {i : Nat} (ha : as[i]? = some a) : Same B (upd H' a u) := s.upd2 (t.fr a (List.mem_of_getElem? ha))
/-- the ways that go on to p, so far -/
def freshW (L : List (List Pr)) (p : Pr) (k : Nat) : List (List Pr) := [p] :: ((L.take k).filter fun ps => stepOk (lastP ps) p).map (· ++ [p])
theorem freshW_all (L : List (List Pr)) (p : Pr) : freshW L p L.length = newW L p := by simp [freshW, newW]
theorem freshW_yes {L : List (List Pr)} {p : Pr} {k : Nat} {ps : List Pr} (e : L[k]? = some ps) (h : stepOk (lastP ps) p = true) : freshW L p (k + 1) = freshW L p k ++ [ps ++ [p]] := by
  simp [freshW, List.take_succ, e, List.filter_append, h]
theorem freshW_no {L : List (List Pr)} {p : Pr} {k : Nat} {ps : List Pr} (e : L[k]? = some ps) (h : stepOk (lastP ps) p = false) : freshW L p (k + 1) = freshW L p k := by
  simp [freshW, List.take_succ, e, List.filter_append, h]
theorem freshW_len (L : List (List Pr)) (p : Pr) (k : Nat) : (freshW L p k).length ≤ L.length + 1 := by
  unfold freshW
  rw [List.length_cons, List.length_map]
  have h1 := List.length_filter_le (fun ps => stepOk (lastP ps) p) (L.take k)
  rw [List.length_take] at h1
  omega
end QF

set_option Elab.async false
set_option linter.all false
set_option maxRecDepth 100000
set_option maxHeartbeats 4000000
namespace L2
open PySem PySem.Spec PyProof.Rows PySem.W PySem.Calls
/-! ### zip of two lists -/
section
variable {X : Cx} {tg : Expr}
end
section
variable {X : Cx}
end
end L2
namespace L2
open PySem PySem.Spec PyProof.Rows PySem.W PySem.Calls
section
variable {X : Cx}
end
end L2

set_option Elab.async false
set_option linter.all false
set_option maxRecDepth 100000
set_option maxHeartbeats 4000000
/-! near stretches -/
namespace QF
open PySem L2
/-- a word of a book answers a told word -/
def ansW (fs : List Form) (x t : Str) : Bool := decide (x = t) || fs.any fun f => (decide (f.1 = x) && decide (f.2.1 = t)) || (decide (f.1 = t) && decide (f.2.1 = x))
def fitsW (fs : List Form) (t : Str) : List Str := [t] ++ (fs.filter fun f => decide (f.1 = t)).map (·.2.1) ++ (fs.filter fun f => decide (f.2.1 = t)).map (·.1)
/-- the last place before n that fits, -1 for none -/
def lastA (p : Nat → Bool) : Nat → Int
  | 0 => -1
  | n + 1 => if p n then (n : Int) else lastA p n
structure NS where
  ws : List Str
  ts : List Str
  fs : List Form
  span : Nat
def NS.p (c : NS) (t : Str) (i : Nat) : Bool := match c.ws[i]? with
  | some x => ansW c.fs x t
  | none => false
def NS.lasts (c : NS) (n : Nat) : List Int := c.ts.map fun t => lastA (c.p t) n
def NS.low (c : NS) (n : Nat) : Int := ((c.lasts n).min?).getD (-1)
/-- what the program tells -/
def NS.at_ (c : NS) (h : Nat) : Option Pr := if c.low h < c.low (h + 1) ∧ (h : Int) - c.low (h + 1) < c.span then some (c.low (h + 1), (h : Int)) else none
def NS.told (c : NS) (k : Nat) : List Pr := (List.range k).filterMap c.at_
/-- what the law asks -/
def NS.holds (c : NS) (l h : Nat) : Bool := c.ts.all fun t => (((c.ws.map fun x => decide (x ∈ fitsW c.fs t)).drop l).take (h - l)).any id
def NS.ok (c : NS) (l h : Nat) : Bool := c.holds l (h + 1) && !(c.holds (l + 1) (h + 1)) && !(c.holds l h)
def NS.row (c : NS) (l k : Nat) : List Pr := (List.range k).filterMap fun d => if c.ok l (l + d) = true then some ((l : Int), ((l + d : Nat) : Int)) else none
def NS.due (c : NS) (i : Nat) : List Pr := (List.range i).flatMap fun l => c.row l (min c.ws.length (l + c.span) - l)
end QF
namespace QF
open PySem L2
end QF

set_option Elab.async false
set_option linter.all false
set_option maxRecDepth 100000
set_option maxHeartbeats 4000000
/-! reversed(xs): in a loop, in a block, and list(reversed(xs)) -/
namespace L2
open PySem PySem.Spec PyProof.Rows PySem.W PySem.Calls
/-! ### in a loop -/
theorem turn_rev {P : Program} {w : World} {K : Frag} {tg : Expr} (a it : Addr) (n : Nat) : Turn P w K tg (⟨fun i H => ∃ xs x, SqL K H a xs ∧ xs.length = n ∧ xs.reverse[i]? = some x, fun i H x H' => H' = H ∧ ∀ xs, SqL K H a xs → xs.reverse[i]? = some x, fun i H => ∃ xs, SqL K H a xs ∧ xs.length = n ∧ xs.length = i⟩) [it] it (fun i h => h.IsRevIter it a ((n : Int) - 1 - (i : Int))) where
  mem := by simp
  obj := fun i h st b hb => by
    have e : b = it := by simpa using hb
    subst e
    obtain ⟨o, e, c, d⟩ := st
    exact ⟨o, e, fun v z => by rw [d] at z; cases z⟩
  keep := fun i h h' st k => st.at fun o e => k it (by simp) o e
  item := by
    intro X hP hw hK hc i pins s σ H E Iv hf st hg
    subst hP hw hK
    obtain ⟨xs, x, hq, hn, hx⟩ := hg
    obtain ⟨its, rv, p, hz⟩ := Iv.list hq
    have hi : i < xs.length := by simpa using (List.getElem?_eq_some_iff.mp hx).1
    have hx' := hx
    rw [List.getElem?_reverse hi] at hx
    obtain ⟨u, hu, ru⟩ := rv.get hx
    obtain ⟨f0, f1, f2, f3, f4, f5⟩ := hf it (by simp)
    have e1 : ((n : Int) - 1 - (i : Int)) = ((xs.length - 1 - i : Nat) : Int) := by omega
    have e2 : ((xs.length - 1 - i : Nat) : Int) - 1 = (n : Int) - 1 - ((i + 1 : Nat) : Int) := by omega
    rw [e1] at st
    refine wpAny_pyNext_rev_item st p.isList (x := u) (by simpa using hu) fun h' st' sb => ?_
    rw [e2] at st'
    have I1 : Inv X pins σ H { s with heap := h' } := Iv.turned (t' := s.toks) (fun b o hb e => (sb.2 b hb).trans e) f0 f1 f3 f4 f5
    obtain ⟨o, e, c, d⟩ := id st'
    exact ⟨u, rfl, go_of (s := { s with heap := h' }) e c d (by decide) ⟨x, H, I1, ru, ⟨rfl, fun ys hy => by rw [Iv.list_inj hy hq]; exact hx'⟩, st', fun b hb => (hf b hb).1⟩⟩
  done := by
    intro X hP hw hK hc i pins s σ H E Iv hf st hg
    subst hP hw hK
    obtain ⟨xs, hq, hn, hx⟩ := hg
    obtain ⟨f0, f1, f2, f3, f4, f5⟩ := hf it (by simp)
    have e1 : ((n : Int) - 1 - (i : Int)) = -1 := by omega
    rw [e1] at st
    exact wpAny_pyNext_rev_end (Iv.ok.hd hc) st fun h' eb => ⟨rfl, Iv.turned (t' := s.toks) (fun b o hb e => eb b o hb e) f0 f1 f3 f4 f5⟩
  self := fun _ _ _ _ _ st h => wpAny_pyIter_revIter st h
section
variable {X : Cx} {tg : Expr}
def Itw (K : Frag) (a : Addr) (n : Nat) : It := ⟨fun i H => ∃ xs x, SqL K H a xs ∧ xs.length = n ∧ xs.reverse[i]? = some x, fun i H x H' => H' = H ∧ ∀ xs, SqL K H a xs → xs.reverse[i]? = some x, fun i H => ∃ xs, SqL K H a xs ∧ xs.length = n ∧ xs.length = i⟩
def iRev (K : Frag) (ta : TA) : TI := fun σ H R => ta σ H fun vs H1 => ∃ a xs, vs = [.ref a] ∧ SqL K H1 a xs ∧ R (Itw K a xs.length) H1
theorem boot_rev : bootBuiltins "reversed" = some (.type "reversed") := by decide +kernel
theorem pi_rev {a : Expr} {ta : TA} {p pos : Pos} (hg : Gl X "reversed") (hm : X.mg "reversed" = none) (ha : PA X [a] ta) (hs : starEach [a] X.env = [(false, eval a X.env)] := by rfl) :
    PI X tg (.Call (.Name "reversed" p) [a] [] pos) (iRev X.K ta) := by
  intro pins s σ H R Iv h
  refine Call_ (ld_blt Iv hg hm boot_rev (PyProof.Rows.callWith_type1 (thn (ha pos pins s σ H _ Iv h) fun us s1 ⟨vs, H1, I1, r1, q1⟩ => ?_) hs rfl))
  obtain ⟨l, xs, e, hq, q⟩ := q1
  subst e
  cases r1 with
  | cons r rr =>
    cases rr
    cases r
    obtain ⟨its, rv, p, hz⟩ := I1.list hq
    have hl := rv.length
    refine call_reversed_list p.isList ?_
    have it : (s1.heap.push (revObj l ((its.toArray.size : Int) - 1))).IsRevIter s1.heap.objs.size l ((xs.length : Int) - 1 - ((0 : Nat) : Int)) := ⟨_, Heap.get?_push_size _ rfl, rfl, by
      have e : ((its.toArray.size : Int) - 1) = (xs.length : Int) - 1 - ((0 : Nat) : Int) := by simp; omega
      rw [e]; rfl⟩
    refine wpAny_pyIter_revIter it ?_
    refine ⟨_, [s1.heap.objs.size], _, _, H1, rfl, I1.kept (t' := s1.toks) (fun b o e => Heap.get?_push_of_some _ e), turn_rev l _ xs.length, it, fun b hb => ?_, q⟩
    have : b = s1.heap.objs.size := by simpa using hb
    exact I1.fpOk (Nat.le_of_eq this.symm) (I1.hok.fresh (Nat.le_of_eq this.symm))
end
theorem pi_revK {X : Cx} {tg : Expr} (K : Frag) {a : Expr} {ta : TA} {p pos : Pos} (hg : Gl X "reversed") (hm : X.mg "reversed" = none) (ha : PA X [a] ta) (hs : starEach [a] X.env = [(false, eval a X.env)] := by rfl) (h : X.K = K := by rfl) :
    PI X tg (.Call (.Name "reversed" p) [a] [] pos) (iRev K ta) := h ▸ pi_rev hg hm ha hs
theorem comp_rev {K : Frag} {a : Addr} {xs : List V} {ls : List Str} {js : List Nat} {g : TG} {tt : TT} {te : TE} {σ : St} {H1 : Hp} {D : Addr} {Q : VK} (Pv : Nat → List V → St → Hp → Prop)
    (h0 : Pv 0 [] (capσ ls js σ) (upd H1 D (.lst []))) (hl : ∀ i ys σ H, i ≤ xs.length → Pv i ys σ H → SqL K H a xs)
    (hs : ∀ i x ys σ H, xs.reverse[i]? = some x → Pv i ys σ H → g x σ H fun σ2 H3 => tt σ2 H3 fun b H4 => if b = true then te σ2 H4 fun y H5 => H5 D = some (.lst ys) ∧ ys.length < sizeLine ∧ Pv (i + 1) (ys ++ [y]) σ2 (upd H5 D (.lst (ys ++ [y]))) else Pv (i + 1) ys σ2 H4)
    (hd : ∀ ys σ H, Pv xs.length ys σ H → Q (.ref D) H) :
    CompW (Itw K a xs.length) ls js g tt te σ H1 D Q :=
  comp_by (n := xs.length) Pv h0 (fun i ys σ H hi p => ⟨xs, xs.reverse[i]'(by simpa using hi), hl i ys σ H (Nat.le_of_lt hi) p, rfl, by simp [hi]⟩) (fun ys σ H p => ⟨xs, hl _ ys σ H (Nat.le_refl _) p, rfl, rfl⟩)
    (fun i ys σ H x H2 hi p y => by
      obtain ⟨e, y⟩ := y
      subst e
      exact hs i x ys σ _ (y xs (hl i ys σ _ (Nat.le_of_lt hi) p)) p) hd
/-! ### list(reversed(xs)) -/
theorem nolen_lr : typeLookup (.type "list_reverseiterator") "__len__" = pure none := by rw [typeLookup_type, builtinLookup_eq_fast]; kernel_rfl
theorem hint_lr : typeLookup (.type "list_reverseiterator") "__length_hint__" = pure (some (.builtin "list_reverseiterator.__length_hint__")) := by rw [typeLookup_type, builtinLookup_eq_fast]; kernel_rfl
section
variable {pg : Program} {wd : World} {Ar : Around} {sh : Shared} {Rs : Result → Shared → Prop} {it : Addr} {fp wr : List Addr} {Gn : Array GenState → Array GenState → Prop} {n : Nat} {Pv : Nat → Value → Prop} {Sv : Nat → Shared → Prop}
theorem extend_rev (Wk : WalksS pg wd Ar.in1 it fp wr Gn n Pv Sv) (ty : ∀ i s, Sv i s → s.TypeIs (.ref it) "list_reverseiterator") (L : Addr) (res : Value) (c0 : Nat) (st0 : Sv 0 sh) (nL : L ∉ fp) (hI : it ∈ fp)
    (eL : sh.heap.get? L = some { cls := .type "list", data := .seq #[] c0 })
    (fin : ∀ s' acc' c', Moved (L :: wr) Gn sh s' → s'.heap.get? L = some { cls := .type "list", dict := none, data := .seq acc' c', slots := #[] } → ItemsOf Pv acc' n → Rs (.ok (.ret res)) s') (hn : n ≤ sizeLine) :
    wpAny (model pg wd) Ar.in1 (Builtin.List.listExtendWith (.ref L) (.ref it) res)
      (fun fn s' => match fn with | .done f => Rs (.ok f) s' | .again c' => c'.quiet = true ∧ codeAny (model pg wd) Ar c' Rs s') (fun e s' => Rs (.error e) s') sh := by
  have nLI : L ≠ it := fun e => nL (e ▸ hI)
  have h1 : Builtin.List.listSameRef (.ref L) (.ref it) = false := by simp [Builtin.List.listSameRef, nLI]
  unfold Builtin.List.listExtendWith
  refine wpAny_bind (wpAny_typeOf (ty 0 _ st0) ?_)
  rw [if_neg (by rw [h1]; decide)]
  refine wpAny_bind (Wk.self 0 _ _ _ st0 ?_)
  refine wpAny_bind (wpAny_holding ?_)
  unfold Builtin.List.listLengthHint
  refine wpAny_bind (wpAny_specialOf (ty 0 _ st0) nolen_lr ?_)
  show wpAny _ Ar.in1 (specialOf (Value.ref it) (Str.ofString "__length_hint__") >>= _) _ _ _
  refine wpAny_bind (wpAny_specialOf (ty 0 _ st0) hint_lr ?_)
  (generalize hid : ("list_reverseiterator.__length_hint__" : String) = id0; (fail_if_success (clear hid id0)); wp_delta; rw [show splitId id0 = some ("list_reverseiterator", "__length_hint__") from by subst hid; decide +kernel]; subst hid)
  refine wpAny_bind (wpAny_isInstance (b := true) (ty 0 _ st0) (by rw [isSubtype_type]; kernel_rfl) ?_)
  refine wpAny_pure ?_
  rw [if_neg (by decide)]
  exact wpAny_pure ⟨plainId_quiet F.plain_extend_loop _, codeAny_extend_loopS Wk hn _ nL _ n 0 _ _ _ rfl (Nat.zero_le _) st0 eL (ItemsOf.nil Pv) fin⟩
end
section
variable {X : Cx}
theorem listrev_call (hc : X.calm = true) {pins : List (Addr × Obj)} {s : Shared} {σ : St} {H : Hp} {a : Addr} {xs : List V} {Q : VK} (Iv : Inv X pins σ H s) (hq : SqL X.K H a xs) (q : ∀ l, H l = none → Q (.ref l) (upd H l (.lst xs.reverse))) :
    wpAny (model X.prog X.w) X.A (call (.type "reversed") [.ref a]) (fun v s1 => wpAny (model X.prog X.w) X.A (call (.type "list") [v]) (EP X pins σ Q) X.xe s1) X.xe s := by
  obtain ⟨its, rv, p, hz⟩ := Iv.list hq
  have hl := rv.length
  refine call_reversed_list p.isList ?_
  have lt : a < s.heap.objs.size := by obtain ⟨o, e, _⟩ := p.isList; exact Heap.lt_size e
  have hne : a ≠ s.heap.objs.size := Nat.ne_of_lt lt
  generalize hh : s.heap.push (revObj a ((its.toArray.size : Int) - 1)) = h1
  have k1 : ∀ b o, s.heap.get? b = some o → h1.get? b = some o := fun b o e => by rw [← hh]; exact Heap.get?_push_of_some _ e
  have sz : h1.objs.size = s.heap.objs.size + 1 := by rw [← hh]; exact Heap.size_push ..
  have it0 : h1.IsRevIter s.heap.objs.size a ((its.toArray.size : Int) - 1 - ((0 : Nat) : Int)) := ⟨_, by rw [← hh]; exact Heap.get?_push_size _ rfl, rfl, by
    have e : ((its.toArray.size : Int) - 1) = (its.toArray.size : Int) - 1 - ((0 : Nat) : Int) := by omega
    rw [← e]; rfl⟩
  have Wk := (Walks.listRev (prog := X.prog) (w := X.w) (A := X.A.in1.in1) (show X.A.in1.in1.handled = none from Iv.ok.hd hc) s.heap.objs.size a hne its.toArray).toS
  have nS : h1.objs.size ∉ [s.heap.objs.size, a] := fun z => by
    simp only [List.mem_cons, List.not_mem_nil, or_false] at z
    rcases z with z | z
    · rw [sz] at z; exact Nat.succ_ne_self _ z
    · rw [sz] at z; rw [← z] at lt; exact Nat.lt_irrefl _ (Nat.lt_of_succ_lt lt)
  refine callType_codes (Q₁ := fun obj s₁ => obj = .ref h1.objs.size ∧ s₁ = { s with heap := h1.push { cls := .type "list", data := .seq #[] } }) F.called_list (F.typeCall_list_1 _) F.entry_list_init (code_list_new _ ⟨rfl, rfl⟩) fun obj s2 z2 => ?_
  obtain ⟨rfl, rfl⟩ := z2
  have eL : (h1.push { cls := .type "list", data := .seq #[] }).get? h1.objs.size = some { cls := .type "list", data := .seq #[] } := Heap.get?_push_size _ rfl
  refine ⟨⟨_, eL, rfl⟩, F.args_list_init_2 _ _, ?_⟩
  show wpAny _ X.A.in1.in1 (do let old ← Builtin.List.listItems (.ref h1.objs.size); Builtin.List.listUpdate (.ref h1.objs.size) (fun _ => #[]); letGo old.toList.reverse; Builtin.List.listExtendWith (.ref h1.objs.size) (.ref s.heap.objs.size) .none) _ _ _
  refine wpAny_bind ?_
  unfold Builtin.List.listItems
  refine wpAny_bind (wpAny_seqItems eL rfl (wpAny_pure ?_))
  show wpAny _ X.A.in1.in1 (updateSeq h1.objs.size (fun _ => #[]) >>= _) _ _ _
  refine wpAny_bind (wpAny_updateSeq eL rfl ?_)
  have eL2 := Heap.get?_update_self (Obj.mapSeq (fun _ => (#[] : Array Value))) eL rfl
  have k2 : ∀ b o, b ≠ h1.objs.size → h1.get? b = some o → ((h1.push { cls := .type "list", data := .seq #[] }).update h1.objs.size (Obj.mapSeq (fun _ => (#[] : Array Value)))).get? b = some o := fun b o hb e => (Heap.get?_update_other _ _ (Ne.symm hb)).trans (Heap.get?_push_of_some _ e)
  refine wpAny_bind (wpAny_letGo ?_)
  refine extend_rev (Ar := X.A.in1) Wk (fun i s x => x.2.1.typeIs) _ .none _ ⟨Nat.zero_le _, it0.at fun o e => k2 _ _ (fun z => nS (by rw [← z]; simp)) e, p.isList.at fun o e => k2 _ _ (fun z => nS (by rw [← z]; simp)) (k1 _ _ e)⟩ nS (by simp) eL2 (fun s' acc c' mv eS ia => ?_) (by rw [List.size_toArray]; omega)
  refine ⟨rfl, ?_⟩
  have es : s' = { s with heap := s'.heap, toks := s'.toks } := by
    have g1 := mv.gens
    have g2 := mv.drawn
    have g3 := mv.os
    obtain ⟨hp, g, d, t, o⟩ := s'
    simp only at g1 g2 g3
    rw [g1, g2, g3]
  have keep : ∀ b o, s.heap.get? b = some o → s'.heap.get? b = some o := fun b o e => by
    have hb := Heap.lt_size e
    refine mv.heap b o (fun z => ?_) (k2 b o (fun z => by rw [z, sz] at hb; exact Nat.lt_irrefl _ (Nat.lt_of_succ_lt hb)) (k1 b o e))
    simp only [List.mem_cons, List.not_mem_nil, or_false] at z
    rcases z with z | z
    · rw [z, sz] at hb; exact Nat.lt_irrefl _ (Nat.lt_of_succ_lt hb)
    · rw [z] at hb; exact Nat.lt_irrefl _ hb
  have ea : acc.toList = its.reverse := by
    refine List.ext_getElem? fun j => ?_
    have hs : acc.size = its.length := by have := ia.1; simpa using this
    by_cases hj : j < its.length
    · have e1 : acc[j]? = some (acc[j]'(by omega)) := Array.getElem?_eq_getElem (by omega)
      have e2 := ia.2 j _ e1
      rw [List.size_toArray, List.getElem?_toArray] at e2
      rw [List.getElem?_reverse hj, e2, Array.getElem?_toList, e1]
    · rw [List.getElem?_eq_none (by rw [Array.length_toList]; omega), List.getElem?_eq_none (by simp; omega)]
  have ea2 : acc = its.reverse.toArray := by rw [← ea]
  rw [es]
  have hge : s.heap.objs.size ≤ h1.objs.size := by rw [sz]; exact Nat.le_succ _
  rw [ea2] at eS
  exact ⟨.ref h1.objs.size, _, Iv.laid (t' := s'.toks) (o := .lst xs.reverse) keep hge ⟨by rw [List.length_reverse]; exact hz, its.reverse, c', rv.reverse, eS⟩, rfl, q _ (Iv.hok.fresh hge)⟩
def tLRev (K : Frag) (te : TE) : TE := fun σ H Q => te σ H fun x H1 => ∃ a xs, x = .ref a ∧ SqL K H1 a xs ∧ ∀ l, H1 l = none → Q (.ref l) (upd H1 l (.lst xs.reverse))
theorem pe_lrev (K : Frag) {e : Expr} {te : TE} {p p2 pos pos2 : Pos} (hc : X.calm = true) (hg : Gl X "list") (hm : X.mg "list" = none) (hg2 : Gl X "reversed") (hm2 : X.mg "reversed" = none) (he : PE X e te)
    (hs : starEach [.Call (.Name "reversed" p2) [e] [] pos2] X.env = [(false, eval (.Call (.Name "reversed" p2) [e] [] pos2) X.env)] := by rfl) (hs2 : starEach [e] X.env = [(false, eval e X.env)] := by rfl) (hK : X.K = K := by rfl) :
    PE X (.Call (.Name "list" p) [.Call (.Name "reversed" p2) [e] [] pos2] [] pos) (tLRev K te) := by
  subst hK
  intro pins s σ H Q Iv h
  refine wpAny_Call_Name_kw (ld_blt Iv hg hm (PyProof.Rows.Boot.«list») ?_ (by decide) (by decide))
  refine PyProof.Rows.callWith_type1 ?_ hs rfl
  rw [hs]
  show wpAny _ _ (spliced [(false, eval (.Call (.Name "reversed" p2) [e] [] pos2) X.env)]) _ _ s
  refine Calls.spliced_cons ?_
  refine wpAny_Call_Name_kw (ld_blt Iv hg2 hm2 boot_rev ?_ (by decide) (by decide))
  refine PyProof.Rows.callWith_type1 ?_ hs2 rfl
  rw [hs2]
  show wpAny _ _ (spliced [(false, eval e X.env)]) _ _ s
  refine Calls.spliced_cons (thn (he pins s σ H _ Iv h) fun u s1 ⟨x, H1, I1, r1, q1⟩ => ?_)
  refine Calls.spliced_nil ?_
  obtain ⟨a, xs, rfl, hq, q⟩ := q1
  cases r1
  refine wpAny_mono (listrev_call hc I1 hq q) (fun v s2 hv => ?_) fun _ _ z => z
  exact Calls.spliced_nil hv
end
end L2

set_option Elab.async false
set_option linter.all false
set_option maxRecDepth 100000
set_option maxHeartbeats 4000000
/-! ways over any table of worths: their ends, their starts, what goes through a pair -/
namespace QF
open PySem L2
def stp (q p : Pr) : Prop := q.1 < p.1 ∧ q.2 < p.2
def gp (o i : Int) (q p : Pr) : Int := o * (p.1 - q.1 - 1) + i * (p.2 - q.2 - 1)
structure Wy (g : Pr → Option Int) (ps : List Pr) : Prop where
  ne : ps ≠ []
  ok : ∀ p ∈ ps, (g p).isSome = true
  up : ps.Pairwise stp
def vl (g : Pr → Option Int) (o i : Int) : List Pr → Int
  | [] => 0
  | [p] => (g p).getD 0
  | p :: q :: r => (g p).getD 0 - gp o i p q + vl g o i (q :: r)
def fstP (ps : List Pr) : Pr := ps.headD (0, 0)
def lstP (ps : List Pr) : Pr := ps.getLastD (0, 0)
theorem lstP_snoc {ps : List Pr} {p : Pr} : lstP (ps ++ [p]) = p := by simp [lstP]
theorem vl_join (g : Pr → Option Int) (o i : Int) (q : Pr) (bs : List Pr) : ∀ (as : List Pr), vl g o i (as ++ q :: bs) = vl g o i (as ++ [q]) + vl g o i (q :: bs) - (g q).getD 0
  | [] => by simp only [List.nil_append, vl]; omega
  | [a] => by
    simp only [List.cons_append, List.nil_append, vl]
    omega
  | a :: b :: r => by
    have ih := vl_join g o i q bs (b :: r)
    simp only [List.cons_append] at ih ⊢
    simp only [vl]
    rw [ih]
    omega
theorem vl_snoc (g : Pr → Option Int) (o i : Int) {ps : List Pr} (hne : ps ≠ []) (p : Pr) : vl g o i (ps ++ [p]) = (g p).getD 0 + vl g o i ps - gp o i (lstP ps) p := by
  obtain ⟨qs, q, rfl⟩ : ∃ qs q, ps = qs ++ [q] := ⟨ps.dropLast, ps.getLast hne, (List.dropLast_concat_getLast hne).symm⟩
  rw [lstP_snoc, List.append_assoc]
  have := vl_join g o i q [p] qs
  simp only [List.singleton_append] at this ⊢
  rw [this]
  simp only [vl]
  omega
theorem Wy.one {g : Pr → Option Int} {p : Pr} (h : (g p).isSome = true) : Wy g [p] := by
  refine ⟨by simp, fun q hq => ?_, by simp⟩
  have e : q = p := by simpa using hq
  rw [e]; exact h
theorem stp_trans {a b c : Pr} (h1 : stp a b) (h2 : stp b c) : stp a c := ⟨Int.lt_trans h1.1 h2.1, Int.lt_trans h1.2 h2.2⟩
theorem pw_lst {ps : List Pr} (h : ps.Pairwise stp) {q : Pr} (hq : q ∈ ps) : q = lstP ps ∨ stp q (lstP ps) := by
  have hne : ps ≠ [] := fun z => by rw [z] at hq; cases hq
  obtain ⟨qs, x, rfl⟩ : ∃ qs x, ps = qs ++ [x] := ⟨ps.dropLast, ps.getLast hne, (List.dropLast_concat_getLast hne).symm⟩
  rw [lstP_snoc]
  rcases List.mem_append.mp hq with hq | hq
  · exact .inr ((List.pairwise_append.mp h).2.2 q hq x (by simp))
  · exact .inl (by simpa using hq)
theorem Wy.snoc {g : Pr → Option Int} {ps : List Pr} {p : Pr} (w : Wy g ps) (h : (g p).isSome = true) (s : stp (lstP ps) p) : Wy g (ps ++ [p]) := by
  refine ⟨by simp, fun q hq => ?_, List.pairwise_append.mpr ⟨w.up, by simp, fun a ha b hb => ?_⟩⟩
  · rcases List.mem_append.mp hq with hq | hq
    · exact w.ok q hq
    · have : q = p := by simpa using hq
      rw [this]; exact h
  · have : b = p := by simpa using hb
    rw [this]
    rcases pw_lst w.up ha with e | e
    · rw [e]; exact s
    · exact stp_trans e s
theorem Wy.split {g : Pr → Option Int} {ps : List Pr} (w : Wy g ps) : ∃ qs, ps = qs ++ [lstP ps] ∧ (∃ v, g (lstP ps) = some v) ∧ (qs = [] ∨ (Wy g qs ∧ stp (lstP qs) (lstP ps))) := by
  obtain ⟨qs, x, rfl⟩ : ∃ qs x, ps = qs ++ [x] := ⟨ps.dropLast, ps.getLast w.ne, (List.dropLast_concat_getLast w.ne).symm⟩
  rw [lstP_snoc]
  refine ⟨qs, rfl, Option.isSome_iff_exists.mp (w.ok x (by simp)), ?_⟩
  by_cases e : qs = []
  · exact .inl e
  · have h := List.pairwise_append.mp w.up
    refine .inr ⟨⟨e, fun q hq => w.ok q (List.mem_append_left _ hq), h.1⟩, h.2.2 _ ?_ x (by simp)⟩
    obtain ⟨rs, y, rfl⟩ : ∃ rs y, qs = rs ++ [y] := ⟨qs.dropLast, qs.getLast e, (List.dropLast_concat_getLast e).symm⟩
    rw [lstP_snoc]; simp
theorem lst_mem {ps : List Pr} (h : ps ≠ []) : lstP ps ∈ ps := by
  obtain ⟨rs, y, rfl⟩ : ∃ rs y, ps = rs ++ [y] := ⟨ps.dropLast, ps.getLast h, (List.dropLast_concat_getLast h).symm⟩
  rw [lstP_snoc]; simp
/-- a table as a function of pairs -/
def lf (f : Nat → Nat → Option Int) (p : Pr) : Option Int := if 0 ≤ p.1 ∧ 0 ≤ p.2 then f p.1.toNat p.2.toNat else none
theorem lf_nat (f : Nat → Nat → Option Int) (i j : Nat) : lf f ((i : Int), (j : Int)) = f i j := by simp [lf]
theorem lf_some {f : Nat → Nat → Option Int} {p : Pr} (h : (lf f p).isSome = true) : ∃ i j : Nat, p = ((i : Int), (j : Int)) := by
  unfold lf at h
  split at h
  · rename_i hh
    exact ⟨p.1.toNat, p.2.toNat, Prod.ext (by simp; omega) (by simp; omega)⟩
  · cases h
def BrA (f : Nat → Nat → Option Int) (o p : Int) (i j : Nat) (v : Int) : Prop := ∃ ps, Wy (lf f) ps ∧ (lstP ps).1 < (i : Int) ∧ (lstP ps).2 < (j : Int) ∧ v = vl (lf f) o p ps - (o * ((i : Int) - 1 - (lstP ps).1) + p * ((j : Int) - 1 - (lstP ps).2))
def EnA (f : Nat → Nat → Option Int) (o p : Int) (q : Pr) (v : Int) : Prop := ∃ ps, Wy (lf f) ps ∧ lstP ps = q ∧ v = vl (lf f) o p ps
theorem end_abs {f : Nat → Nat → Option Int} {o p : Int} {i j : Nat} {b : Option Int} (h : MaxOf (BrA f o p i j) b) : MaxOf (EnA f o p ((i : Int), (j : Int))) (bog (f i j) b) := by
  cases e : f i j with
  | none =>
    rintro v ⟨ps, w, el, rfl⟩
    obtain ⟨qs, _, ⟨x, hx⟩, _⟩ := w.split
    rw [el, lf_nat, e] at hx
    cases hx
  | some x =>
    have eg : lf f ((i : Int), (j : Int)) = some x := by rw [lf_nat]; exact e
    have cases_ : ∀ ps, Wy (lf f) ps → lstP ps = ((i : Int), (j : Int)) → vl (lf f) o p ps = x ∨ ∃ v, BrA f o p i j v ∧ vl (lf f) o p ps = x + v := fun ps w el => by
      obtain ⟨qs, eq, _, hq⟩ := w.split
      rw [el] at eq hq
      rcases hq with rfl | ⟨wq, st⟩
      · left
        rw [eq]; simp [vl, eg]
      · right
        refine ⟨_, ⟨qs, wq, st.1, st.2, rfl⟩, ?_⟩
        rw [eq, vl_snoc _ _ _ wq.ne, eg]
        simp only [gp, Option.getD_some]
        have e1 : (i : Int) - (lstP qs).1 - 1 = (i : Int) - 1 - (lstP qs).1 := by omega
        have e2 : (j : Int) - (lstP qs).2 - 1 = (j : Int) - 1 - (lstP qs).2 := by omega
        rw [e1, e2]
        omega
    have alone : EnA f o p ((i : Int), (j : Int)) x := ⟨[((i : Int), (j : Int))], .one (by rw [eg]; rfl), rfl, by simp [vl, eg]⟩
    have more : ∀ v, BrA f o p i j v → EnA f o p ((i : Int), (j : Int)) (x + v) := by
      rintro v ⟨ps, w, l1, l2, rfl⟩
      refine ⟨ps ++ [((i : Int), (j : Int))], w.snoc (by rw [eg]; rfl) ⟨l1, l2⟩, lstP_snoc, ?_⟩
      rw [vl_snoc _ _ _ w.ne, eg]
      simp only [gp, Option.getD_some]
      have e1 : (i : Int) - (lstP ps).1 - 1 = (i : Int) - 1 - (lstP ps).1 := by omega
      have e2 : (j : Int) - (lstP ps).2 - 1 = (j : Int) - 1 - (lstP ps).2 := by omega
      rw [e1, e2]
      omega
    cases b with
    | none =>
      refine ⟨alone, ?_⟩
      rintro v ⟨ps, w, el, rfl⟩
      rcases cases_ ps w el with h1 | ⟨u, hu, _⟩
      · omega
      · exact absurd hu (h u)
    | some m =>
      simp only [bog]
      split
      · refine ⟨alone, ?_⟩
        rintro v ⟨ps, w, el, rfl⟩
        rcases cases_ ps w el with h1 | ⟨u, hu, h2⟩
        · omega
        · have := h.2 u hu
          omega
      · refine ⟨more m h.1, ?_⟩
        rintro v ⟨ps, w, el, rfl⟩
        rcases cases_ ps w el with h1 | ⟨u, hu, h2⟩
        · omega
        · have := h.2 u hu
          omega
theorem last_nat {f : Nat → Nat → Option Int} {ps : List Pr} (w : Wy (lf f) ps) : 0 ≤ (lstP ps).1 ∧ 0 ≤ (lstP ps).2 := by
  obtain ⟨a, b, e⟩ := lf_some (w.ok _ (lst_mem w.ne))
  rw [e]; simp
theorem brought_abs (f : Nat → Nat → Option Int) (o p : Int) : ∀ i j : Nat, MaxOf (BrA f o p i j) (Bq f o p i j)
  | 0, j => by
    unfold Bq
    rintro v ⟨ps, w, l1, _⟩
    have := last_nat w
    simp at l1
    omega
  | i + 1, 0 => by
    unfold Bq
    rintro v ⟨ps, w, _, l2, _⟩
    have := last_nat w
    simp at l2
    omega
  | i + 1, j + 1 => by
    rw [Bq]
    refine (maxOf_three (end_abs (brought_abs f o p i j)) ((brought_abs f o p i (j + 1)).less o) ((brought_abs f o p (i + 1) j).less p)).iff fun v => ?_
    constructor
    · rintro (⟨ps, w, el, rfl⟩ | ⟨u, ⟨ps, w, l1, l2, rfl⟩, rfl⟩ | ⟨u, ⟨ps, w, l1, l2, rfl⟩, rfl⟩)
      · refine ⟨ps, w, by rw [el]; simp; omega, by rw [el]; simp; omega, ?_⟩
        rw [el]
        have e1 : ((i + 1 : Nat) : Int) - 1 - (i : Int) = 0 := by omega
        have e2 : ((j + 1 : Nat) : Int) - 1 - (j : Int) = 0 := by omega
        simp only [e1, e2, Int.mul_zero]
        omega
      · refine ⟨ps, w, by omega, by omega, ?_⟩
        have e1 : ((i + 1 : Nat) : Int) - 1 - (lstP ps).1 = ((i : Int) - 1 - (lstP ps).1) + 1 := by omega
        rw [e1, Int.mul_add]
        omega
      · refine ⟨ps, w, by omega, by omega, ?_⟩
        have e1 : ((j + 1 : Nat) : Int) - 1 - (lstP ps).2 = ((j : Int) - 1 - (lstP ps).2) + 1 := by omega
        rw [e1, Int.mul_add]
        omega
    · rintro ⟨ps, w, l1, l2, rfl⟩
      by_cases h1 : (lstP ps).1 < (i : Int)
      · right; left
        refine ⟨_, ⟨ps, w, h1, l2, rfl⟩, ?_⟩
        have e1 : ((i + 1 : Nat) : Int) - 1 - (lstP ps).1 = ((i : Int) - 1 - (lstP ps).1) + 1 := by omega
        rw [e1, Int.mul_add]
        omega
      · by_cases h2 : (lstP ps).2 < (j : Int)
        · right; right
          refine ⟨_, ⟨ps, w, l1, h2, rfl⟩, ?_⟩
          have e1 : ((j + 1 : Nat) : Int) - 1 - (lstP ps).2 = ((j : Int) - 1 - (lstP ps).2) + 1 := by omega
          rw [e1, Int.mul_add]
          omega
        · left
          have a1 : (lstP ps).1 = (i : Int) := by omega
          have a2 : (lstP ps).2 = (j : Int) := by omega
          refine ⟨ps, w, Prod.ext a1 a2, ?_⟩
          have e1 : ((i + 1 : Nat) : Int) - 1 - (lstP ps).1 = 0 := by omega
          have e2 : ((j + 1 : Nat) : Int) - 1 - (lstP ps).2 = 0 := by omega
          simp only [e1, e2, Int.mul_zero]
          omega
termination_by i j => (i, j)
theorem ending_abs (f : Nat → Nat → Option Int) (o p : Int) (i j : Nat) : MaxOf (EnA f o p ((i : Int), (j : Int))) (Eq' f o p i j) := end_abs (brought_abs f o p i j)
/-! read backwards -/
def fr (f : Nat → Nat → Option Int) (n m : Nat) (a b : Nat) : Option Int := if a < n ∧ b < m then f (n - 1 - a) (m - 1 - b) else none
def rvP (n m : Nat) (p : Pr) : Pr := ((n : Int) - 1 - p.1, (m : Int) - 1 - p.2)
def rvL (n m : Nat) (ps : List Pr) : List Pr := (ps.map (rvP n m)).reverse
def InT (f : Nat → Nat → Option Int) (n m : Nat) : Prop := ∀ i j, (f i j).isSome = true → i < n ∧ j < m
theorem rvP_rv (n m : Nat) (p : Pr) : rvP n m (rvP n m p) = p := Prod.ext (by show (n : Int) - 1 - ((n : Int) - 1 - p.1) = p.1; omega) (by show (m : Int) - 1 - ((m : Int) - 1 - p.2) = p.2; omega)
theorem rvL_rv (n m : Nat) (ps : List Pr) : rvL n m (rvL n m ps) = ps := by
  unfold rvL
  rw [List.map_reverse, List.reverse_reverse, List.map_map]
  have : rvP n m ∘ rvP n m = id := by funext p; exact rvP_rv n m p
  rw [this, List.map_id]
theorem fr_in {f : Nat → Nat → Option Int} {n m : Nat} : InT (fr f n m) n m := fun i j h => by
  unfold fr at h
  split at h
  · assumption
  · cases h
theorem fr_fr {f : Nat → Nat → Option Int} {n m : Nat} (t : InT f n m) : fr (fr f n m) n m = f := by
  funext a b
  unfold fr
  by_cases h : a < n ∧ b < m
  · rw [if_pos h, if_pos (by omega), show n - 1 - (n - 1 - a) = a by omega, show m - 1 - (m - 1 - b) = b by omega]
  · rw [if_neg h]
    cases e : f a b with
    | none => rfl
    | some v => exact absurd (t a b (by rw [e]; rfl)) h
theorem lf_fr {f : Nat → Nat → Option Int} {n m : Nat} (t : InT f n m) (p : Pr) : lf (fr f n m) (rvP n m p) = lf f p := by
  by_cases h : (0 ≤ p.1 ∧ p.1 < (n : Int)) ∧ (0 ≤ p.2 ∧ p.2 < (m : Int))
  · obtain ⟨a, ha⟩ := Int.eq_ofNat_of_zero_le h.1.1
    obtain ⟨b, hb⟩ := Int.eq_ofNat_of_zero_le h.2.1
    have ep : p = ((a : Int), (b : Int)) := Prod.ext ha hb
    have er : rvP n m p = (((n - 1 - a : Nat) : Int), ((m - 1 - b : Nat) : Int)) := Prod.ext (by show (n : Int) - 1 - p.1 = _; omega) (by show (m : Int) - 1 - p.2 = _; omega)
    rw [er, ep, lf_nat, lf_nat]
    unfold fr
    rw [if_pos (by omega), show n - 1 - (n - 1 - a) = a by omega, show m - 1 - (m - 1 - b) = b by omega]
  · have n1 : lf f p = none := by
      cases e : lf f p with
      | none => rfl
      | some v =>
        obtain ⟨a, b, rfl⟩ := lf_some (f := f) (p := p) (by rw [e]; rfl)
        rw [lf_nat] at e
        have := t a b (by rw [e]; rfl)
        exact absurd (by simp; omega) h
    rw [n1]
    cases e : lf (fr f n m) (rvP n m p) with
    | none => rfl
    | some v =>
      obtain ⟨a, b, er⟩ := lf_some (f := fr f n m) (p := rvP n m p) (by rw [e]; rfl)
      rw [er, lf_nat] at e
      have := fr_in a b (by rw [e]; rfl)
      have h1 : (n : Int) - 1 - p.1 = (a : Int) := congrArg Prod.fst er
      have h2 : (m : Int) - 1 - p.2 = (b : Int) := congrArg Prod.snd er
      exact absurd (by omega) h
theorem vl_rev {f : Nat → Nat → Option Int} {n m : Nat} (t : InT f n m) (o i : Int) : ∀ ps : List Pr, vl (lf (fr f n m)) o i (rvL n m ps) = vl (lf f) o i ps
  | [] => rfl
  | [p] => by simp [rvL, vl, lf_fr t]
  | p :: q :: r => by
    have ih := vl_rev t o i (q :: r)
    have e : rvL n m (p :: q :: r) = rvL n m (q :: r) ++ [rvP n m p] := by simp [rvL]
    have e2 : rvL n m (q :: r) = rvL n m r ++ [rvP n m q] := by simp [rvL]
    have hne : rvL n m (q :: r) ≠ [] := by rw [e2]; simp
    rw [e, vl_snoc _ _ _ hne, ih, lf_fr t]
    simp only [vl]
    rw [e2, lstP_snoc]
    have eg : gp o i (rvP n m q) (rvP n m p) = gp o i p q := by
      simp only [gp, rvP]
      have e1 : (n : Int) - 1 - p.1 - ((n : Int) - 1 - q.1) - 1 = q.1 - p.1 - 1 := by omega
      have e2 : (m : Int) - 1 - p.2 - ((m : Int) - 1 - q.2) - 1 = q.2 - p.2 - 1 := by omega
      rw [e1, e2]
    rw [eg]
    omega
theorem Wy.rev {f : Nat → Nat → Option Int} {n m : Nat} (t : InT f n m) {ps : List Pr} (w : Wy (lf f) ps) : Wy (lf (fr f n m)) (rvL n m ps) := by
  refine ⟨fun z => w.ne ?_, fun p hp => ?_, ?_⟩
  · have := congrArg List.length z
    simp [rvL] at this
    exact this
  · obtain ⟨q, hq, rfl⟩ := List.mem_map.mp (List.mem_reverse.mp hp)
    rw [lf_fr t]; exact w.ok q hq
  · unfold rvL
    rw [List.pairwise_reverse, List.pairwise_map]
    refine w.up.imp fun {a b} h => ⟨?_, ?_⟩
    · show (n : Int) - 1 - b.1 < (n : Int) - 1 - a.1
      have := h.1; omega
    · show (m : Int) - 1 - b.2 < (m : Int) - 1 - a.2
      have := h.2; omega
theorem lst_rev {n m : Nat} {ps : List Pr} (h : ps ≠ []) : lstP (rvL n m ps) = rvP n m (fstP ps) := by
  cases ps with
  | nil => exact absurd rfl h
  | cons p r => simp [rvL, lstP, fstP]
theorem fst_rev {n m : Nat} {ps : List Pr} (h : ps ≠ []) : fstP (rvL n m ps) = rvP n m (lstP ps) := by
  have h2 : rvL n m ps ≠ [] := fun z => h (by have := congrArg List.length z; simp [rvL] at this; exact this)
  have := lst_rev (n := n) (m := m) h2
  rw [rvL_rv] at this
  rw [this, rvP_rv]
def StA (f : Nat → Nat → Option Int) (o p : Int) (q : Pr) (v : Int) : Prop := ∃ ps, Wy (lf f) ps ∧ fstP ps = q ∧ v = vl (lf f) o p ps
/-- the table of best starts -/
def Sq (f : Nat → Nat → Option Int) (n m : Nat) (o p : Int) (i j : Nat) : Option Int := fr (Eq' (fr f n m) o p) n m i j
theorem starting_abs {f : Nat → Nat → Option Int} {n m : Nat} (t : InT f n m) (o p : Int) {i j : Nat} (hi : i < n) (hj : j < m) : MaxOf (StA f o p ((i : Int), (j : Int))) (Sq f n m o p i j) := by
  unfold Sq
  rw [fr, if_pos ⟨hi, hj⟩]
  refine (ending_abs (fr f n m) o p (n - 1 - i) (m - 1 - j)).iff fun v => ?_
  have er : rvP n m ((i : Int), (j : Int)) = (((n - 1 - i : Nat) : Int), ((m - 1 - j : Nat) : Int)) := Prod.ext (by show (n : Int) - 1 - (i : Int) = _; omega) (by show (m : Int) - 1 - (j : Int) = _; omega)
  constructor
  · rintro ⟨ps, w, el, rfl⟩
    have w2 := w.rev fr_in
    rw [fr_fr t] at w2
    refine ⟨rvL n m ps, w2, ?_, ?_⟩
    · rw [fst_rev w.ne, el, ← er, rvP_rv]
    · have := vl_rev (fr_in (f := f) (n := n) (m := m)) o p ps
      rw [fr_fr t] at this
      exact this.symm
  · rintro ⟨ps, w, el, rfl⟩
    exact ⟨rvL n m ps, w.rev t, by rw [lst_rev w.ne, el, er], (vl_rev t o p ps).symm⟩
/-! through a pair -/
def ThA (f : Nat → Nat → Option Int) (o p : Int) (q : Pr) (v : Int) : Prop := ∃ ps, Wy (lf f) ps ∧ q ∈ ps ∧ v = vl (lf f) o p ps
def thr : Option Int → Option Int → Option Int → Option Int
  | some w, some e, some s => some (e + s - w)
  | _, _, _ => none
theorem through_abs {f : Nat → Nat → Option Int} {n m : Nat} (t : InT f n m) (o p : Int) {i j : Nat} (hi : i < n) (hj : j < m) : MaxOf (ThA f o p ((i : Int), (j : Int))) (thr (f i j) (Eq' f o p i j) (Sq f n m o p i j)) := by
  have hE := ending_abs f o p i j
  have hS := starting_abs t o p hi hj
  cases e : f i j with
  | none =>
    rintro v ⟨ps, w, hm, rfl⟩
    have := w.ok _ hm
    rw [lf_nat, e] at this; cases this
  | some x =>
    have eg : lf f ((i : Int), (j : Int)) = some x := by rw [lf_nat]; exact e
    have one : Wy (lf f) [((i : Int), (j : Int))] := .one (by rw [eg]; rfl)
    cases e1 : Eq' f o p i j with
    | none =>
      rw [e1] at hE
      exact absurd ⟨_, one, rfl, rfl⟩ (hE _)
    | some E =>
      cases e2 : Sq f n m o p i j with
      | none =>
        rw [e2] at hS
        exact absurd ⟨_, one, rfl, rfl⟩ (hS _)
      | some S =>
        rw [e1] at hE
        rw [e2] at hS
        obtain ⟨⟨as, wa, la, ea⟩, hE⟩ := hE
        obtain ⟨⟨bs, wb, lb, eb⟩, hS⟩ := hS
        refine ⟨?_, ?_⟩
        · obtain ⟨qs, eq, _, hq⟩ := wa.split
          rw [la] at eq hq
          obtain ⟨r, er⟩ : ∃ r, bs = ((i : Int), (j : Int)) :: r := by
            cases bs with
            | nil => exact absurd rfl wb.ne
            | cons b r => exact ⟨r, by have : b = ((i : Int), (j : Int)) := lb; rw [this]⟩
          refine ⟨qs ++ ((i : Int), (j : Int)) :: r, ⟨by simp, fun z hz => ?_, ?_⟩, by simp, ?_⟩
          · rcases List.mem_append.mp hz with hz | hz
            · exact wa.ok z (by rw [eq]; exact List.mem_append_left _ hz)
            · exact wb.ok z (by rw [er]; exact hz)
          · have ua := wa.up
            have ub := wb.up
            rw [eq] at ua
            rw [er] at ub
            have ha := List.pairwise_append.mp ua
            refine List.pairwise_append.mpr ⟨ha.1, ub, fun a1 h1 b1 h2 => ?_⟩
            have s1 := ha.2.2 a1 h1 ((i : Int), (j : Int)) (by simp)
            rcases List.mem_cons.mp h2 with e3 | h2
            · rw [e3]; exact s1
            · exact stp_trans s1 ((List.pairwise_cons.mp ub).1 b1 h2)
          · rw [vl_join, ← eq, ← er, ← ea, ← eb, eg]; rfl
        · rintro v ⟨ps, w, hm, rfl⟩
          obtain ⟨a1, b1, rfl⟩ := List.append_of_mem hm
          have up := List.pairwise_append.mp w.up
          have wA : Wy (lf f) (a1 ++ [((i : Int), (j : Int))]) := ⟨by simp, fun z hz => w.ok z (by
            rcases List.mem_append.mp hz with hz | hz
            · exact List.mem_append_left _ hz
            · have : z = ((i : Int), (j : Int)) := by simpa using hz
              rw [this]; simp), List.pairwise_append.mpr ⟨up.1, by simp, fun x1 h1 y1 h2 => by
            have : y1 = ((i : Int), (j : Int)) := by simpa using h2
            rw [this]; exact up.2.2 x1 h1 _ (by simp)⟩⟩
          have wB : Wy (lf f) (((i : Int), (j : Int)) :: b1) := ⟨by simp, fun z hz => w.ok z (List.mem_append_right _ hz), up.2.1⟩
          have h1 := hE _ ⟨_, wA, lstP_snoc, rfl⟩
          have h2 := hS _ ⟨_, wB, rfl, rfl⟩
          rw [vl_join, eg]
          show _ ≤ E + S - x
          simp only [Option.getD_some]
          omega
/-! as the cases have them -/
theorem opn_lf (c : Case) (shut : List Pr) (p : Pr) : lf (opf c shut) p = opn c shut p := by
  unfold lf
  split
  · rename_i h
    unfold opf
    congr 1
    exact Prod.ext (by simp; omega) (by simp; omega)
  · rename_i h
    unfold opn
    split
    · rfl
    · exact (c.pw_out (by omega)).symm
theorem opf_in (c : Case) (shut : List Pr) : InT (opf c shut) c.xs.length c.ys.length := fun i j h => by
  unfold opf opn at h
  split at h
  · cases h
  · obtain ⟨w, hw⟩ := Option.isSome_iff_exists.mp h
    have := c.pw_in hw
    simp at this
    omega
theorem lstP_eq {ps : List Pr} (h : ps ≠ []) : lastP ps = lstP ps := by
  obtain ⟨qs, x, rfl⟩ : ∃ qs x, ps = qs ++ [x] := ⟨ps.dropLast, ps.getLast h, (List.dropLast_concat_getLast h).symm⟩
  rw [lastP_snoc, lstP_snoc]
theorem opn_pw {c : Case} {shut : List Pr} {p : Pr} {w : Int} (h : opn c shut p = some w) : c.pw p = some w ∧ p ∉ shut := by
  unfold opn at h
  split at h
  · cases h
  · rename_i hs
    exact ⟨h, hs⟩
theorem oway_wy {c : Case} {shut : List Pr} : ∀ {k : Nat} {ps : List Pr}, ps.length = k → OWay c shut ps → Wy (opn c shut) ps ∧ wW c ps = vl (opn c shut) c.out c.into ps
  | 0, ps, hk, o => absurd (List.length_eq_zero_iff.mp hk) (isWay_good o.1).1
  | k + 1, ps, hk, o => by
    obtain ⟨qs, eq, ⟨w, hw⟩, hq⟩ := o.split
    generalize lastP ps = p at eq hw hq
    subst eq
    have hp := opn_pw hw
    rcases hq with rfl | ⟨oq, st⟩
    · exact ⟨.one (by rw [hw]; rfl), by rw [List.nil_append, wW_one hp.1]; simp [vl, hw]⟩
    · have hlen : qs.length = k := by simpa using hk
      obtain ⟨wq, vq⟩ := oway_wy hlen oq
      have el := lstP_eq wq.ne
      rw [step_iff, el] at st
      refine ⟨wq.snoc (by rw [hw]; rfl) st, ?_⟩
      rw [wW_snoc wq.ne hp.1, vl_snoc _ _ _ wq.ne, hw, vq, el]
      rfl
theorem wy_oway {c : Case} {shut : List Pr} : ∀ {k : Nat} {ps : List Pr}, ps.length = k → Wy (opn c shut) ps → OWay c shut ps
  | 0, ps, hk, w => absurd (List.length_eq_zero_iff.mp hk) w.ne
  | k + 1, ps, hk, w => by
    obtain ⟨qs, eq, ⟨v, hv⟩, hq⟩ := w.split
    generalize lstP ps = p at eq hv hq
    subst eq
    rcases hq with rfl | ⟨wq, st⟩
    · exact .one hv
    · have hlen : qs.length = k := by simpa using hk
      exact (wy_oway hlen wq).snoc hv (step_iff.mpr (by rw [lstP_eq wq.ne]; exact st))
theorem oway_iff {c : Case} {shut : List Pr} {ps : List Pr} : OWay c shut ps ↔ Wy (lf (opf c shut)) ps := by
  have : lf (opf c shut) = opn c shut := by funext p; exact opn_lf c shut p
  rw [this]
  exact ⟨fun o => (oway_wy rfl o).1, fun w => wy_oway rfl w⟩
theorem oway_vl {c : Case} {shut : List Pr} {ps : List Pr} (o : OWay c shut ps) : wW c ps = vl (lf (opf c shut)) c.out c.into ps := by
  have : lf (opf c shut) = opn c shut := by funext p; exact opn_lf c shut p
  rw [this]
  exact (oway_wy rfl o).2
def startF (c : Case) (shut : List Pr) : Nat → Nat → Option Int := Sq (opf c shut) c.xs.length c.ys.length c.out c.into
def thruF (c : Case) (shut : List Pr) (i j : Nat) : Option Int := thr (opf c shut i j) (endF c shut i j) (startF c shut i j)
end QF

set_option Elab.async false
set_option linter.all false
set_option maxRecDepth 100000
set_option maxHeartbeats 4000000
/-! a tuple in a list of tuples; the tables of best starts and of what goes through -/
namespace L2
open PySem PySem.Spec PyProof.Rows PySem.W PySem.Calls
section
variable {X : Cx}
inductive rInT (K : Frag) (x : V) (y : V) (H : Hp) (Q : VK) : Prop
  | mk (p q : Addr) (xs vs : List V) (cs : List (List V)) (_ : x = .ref p) (_ : y = .ref q) (_ : SqT K H p xs) (_ : xs.all flatV = true) (_ : SqL K H q vs) (_ : TL H vs cs) (_ : (∀ i : Nat, vs[i]? ≠ some (V.ref p))) (_ : Q (.bl (cs.any fun c => eqTs c xs)) H) : rInT K x y H Q
open Classical in
theorem op_in_tupsK (K : Frag) (hu : X.A.units + 1 < cLine) (hK : X.K = K := by rfl) : OpR X (compareOp .In) (rInT K) := by
  subst hK
  intro pins s σ H x y v u Q I rx ry h
  obtain ⟨p, q, xs, vs, cs, rfl, rfl, hp, fx, hq, tl, hne, k⟩ := h
  cases rx
  cases ry
  obtain ⟨its, r, pl, hz⟩ := I.tuple hp
  obtain ⟨its2, r2, pl2, hz2⟩ := I.list hq
  have lc := tl.1
  have l2 := r2.length
  have key : ∀ j, j < its2.length → ∃ c t, cs[j]? = some c ∧ its2[j]? = some (.ref t) ∧ SeqAt.EqAt X.A.in1 s (.ref t) (.ref p) (eqTs c xs) := fun j hj => by
    have hc : cs[j]? = some cs[j] := by simp [show j < cs.length by omega]
    generalize cs[j] = c at hc
    obtain ⟨t, ht1, ht2, ht3⟩ := tl.2 j c hc
    obtain ⟨u, eu, ru⟩ := r2.get ht1
    cases ru
    refine ⟨c, t, hc, eu, ?_⟩
    obtain ⟨its3, r3, pl3, hz3⟩ := I.tuple (xs := c) (.of ht2)
    have hn : t ≠ p := fun z => hne j (by rw [ht1, z])
    have := SeqAt.EqAt.of_refs hn (SeqAt.RcAt.tuples (A := X.A.in1) pl3 pl (show X.A.in1.units < cLine from hu) (tup_eqAt r3 r ht3 fx))
    rw [← eqTs_range, r3.length, r.length]
    simpa using this
  let e : Value → Bool := fun y => decide (∃ (c : List V) (t : Addr), y = Value.ref t ∧ eqTs c xs = true ∧ ∃ j : Nat, cs[j]? = some c ∧ its2[j]? = some (Value.ref t))
  have uniq : ∀ (j : Nat) (c : List V) (t : Addr), cs[j]? = some c → its2[j]? = some (Value.ref t) → e (.ref t) = eqTs c xs := fun j c t h1 h2 => by
    show decide _ = _
    rw [Bool.eq_iff_iff, decide_eq_true_iff]
    refine ⟨fun ⟨c2, t2, et, hh, j2, g1, g2⟩ => ?_, fun hh => ⟨c, t, rfl, hh, j, h1, h2⟩⟩
    cases et
    obtain ⟨a1, b1, b2, b3⟩ := tl.2 j c h1
    obtain ⟨a2, d1, d2, d3⟩ := tl.2 j2 c2 g1
    obtain ⟨u1, eu1, ru1⟩ := r2.get b1
    obtain ⟨u2, eu2, ru2⟩ := r2.get d1
    cases ru1
    cases ru2
    rw [h2] at eu1
    rw [g2] at eu2
    cases eu1
    cases eu2
    rw [b2] at d2
    cases d2
    exact hh
  refine SeqAt.in_listAt e pl2.isList (fun y hy => ?_) ?_
  · obtain ⟨j, hj, rfl⟩ := Array.mem_iff_getElem.mp hy
    have hj' : j < its2.length := by simpa using hj
    obtain ⟨c, t, h1, h2, h3⟩ := key j hj'
    have : its2.toArray[j] = .ref t := by
      have := (List.getElem?_eq_some_iff.mp h2).2
      simpa using this
    rw [this, uniq j c t h1 h2]
    exact h3
  · refine ⟨.bl (cs.any fun c => eqTs c xs), H, I, ?_, k⟩
    have : its2.toArray.any e = cs.any fun c => eqTs c xs := by
      rw [Bool.eq_iff_iff, Array.any_eq_true, List.any_eq_true]
      constructor
      · rintro ⟨j, hj, hh⟩
        have hj' : j < its2.length := by simpa using hj
        obtain ⟨c, t, h1, h2, _⟩ := key j hj'
        have ej : its2.toArray[j] = .ref t := by
          have := (List.getElem?_eq_some_iff.mp h2).2
          simpa using this
        rw [ej, uniq j c t h1 h2] at hh
        exact ⟨c, List.mem_of_getElem? h1, hh⟩
      · rintro ⟨c, hc, hh⟩
        obtain ⟨j, hj, rfl⟩ := List.mem_iff_getElem.mp hc
        have hj' : j < its2.length := by omega
        obtain ⟨c', t, h1, h2, _⟩ := key j hj'
        have : c' = cs[j] := by rw [List.getElem?_eq_getElem hj] at h1; exact (Option.some.inj h1).symm
        subst this
        refine ⟨j, by simpa using hj', ?_⟩
        have ej : its2.toArray[j]'(by simpa using hj') = .ref t := by
          have := (List.getElem?_eq_some_iff.mp h2).2
          simpa using this
        rw [ej, uniq j _ t h1 h2]
        exact hh
    rw [this]; rfl

end
end L2
namespace QF
open PySem L2
theorem mem_in {c : Case} {shut : List Pr} {ps : List Pr} (o : OWay c shut ps) {i j : Nat} (h : ((i : Int), (j : Int)) ∈ ps) : i < c.xs.length ∧ j < c.ys.length := by
  have w := (oway_iff.mp o).ok _ h
  rw [lf_nat] at w
  exact opf_in c shut i j w
theorem due_thru {c : Case} {shut : List Pr} {L : List (List Pr)} {F : Pr → Option Int} (hL : ∀ ps, ps ∈ L ↔ OWay c shut ps) (d : Due c (fun ps p => decide (p ∈ ps)) L L.length 0 F) (i j : Nat) : F ((i : Int), (j : Int)) = thruF c shut i j := by
  by_cases h : i < c.xs.length ∧ j < c.ys.length
  · refine MaxOf.uniq (d.fin _) ((through_abs (opf_in c shut) c.out c.into h.1 h.2).iff fun v => ?_)
    constructor
    · rintro ⟨ps, w, el, rfl⟩
      have o := oway_iff.mpr w
      exact ⟨ps, (hL ps).mpr o, el, by simp [el], (oway_vl o).symm⟩
    · rintro ⟨ps, h1, h2, _, rfl⟩
      have o := (hL ps).mp h1
      exact ⟨ps, oway_iff.mp o, h2, oway_vl o⟩
  · have e : thruF c shut i j = none := by
      unfold thruF
      have : opf c shut i j = none := by
        cases e : opf c shut i j with
        | none => rfl
        | some w => exact absurd (opf_in c shut i j (by rw [e]; rfl)) h
      rw [this]; rfl
    rw [e]
    refine MaxOf.uniq (d.fin _) ?_
    rintro v ⟨ps, h1, h2, _⟩
    exact h (mem_in ((hL ps).mp h1) h2)
theorem rowV_rev {f : Nat → Nat → Option Int} {n m i : Nat} (hi : i < n) : (rowV m (f (n - 1 - i))).reverse = rowV m (fr f n m i) := by
  refine List.ext_getElem? fun k => ?_
  by_cases hk : k < m
  · rw [List.getElem?_reverse (by rw [rowV_len]; exact hk), rowV_len, rowV_at (by omega : m - 1 - k < m), rowV_at hk]
    unfold fr
    rw [if_pos ⟨hi, hk⟩]
  · rw [List.getElem?_eq_none (by rw [List.length_reverse, rowV_len]; omega), List.getElem?_eq_none (by rw [rowV_len]; omega)]
inductive sp_backwards (vs : List V) (H : Hp) (Q : VK) (u3 : XK) : Prop
  | mk (e : Addr) (as : List Addr) (f : Nat → Nat → Option Int) (n m : Nat) (_ : vs = [.ref e]) (_ : H e = some (.lst (as.map V.ref))) (_ : TabA H as f n m) (_ : n ≤ 1000) (_ : m ≤ 1000) (_ : ∀ H' r, Same H H' → Tab H H' r (fr f n m) n m → Q (.ref r) H') : sp_backwards vs H Q u3
inductive sp_starting (CT : Addr) (vs : List V) (H : Hp) (Q : VK) (u3 : XK) : Prop
  | mk (w t : Addr) (c : Case) (as : List Addr) (f : Nat → Nat → Option Int) (n m : Nat) (_ : vs = [.ref w, .ref t]) (_ : H w = some (.lst (as.map V.ref))) (_ : TabA H as f n m) (_ : TFor H CT t c) (_ : n ≤ 1000) (_ : m ≤ 1000) (_ : ∀ H' r, Same H H' → Tab H H' r (Sq f n m c.out c.into) n m → Q (.ref r) H') : sp_starting CT vs H Q u3
inductive sp_thru1 (vs : List V) (H : Hp) (Q : VK) (u3 : XK) : Prop
  | mk (w e s : Option Int) (_ : vs = [optV w, optV e, optV s]) (_ : w.isSome = true → e.isSome = true ∧ s.isSome = true) (_ : Q (optV (thr w e s)) H) : sp_thru1 vs H Q u3
end QF

set_option Elab.async false
set_option linter.all false
set_option maxRecDepth 100000
set_option maxHeartbeats 4000000
namespace K12
open PySem L2 QF
def top (i : Nat) : Stmt := PySem.Challenge.pw_quotefind_k12_best_through.main.body.getD i (.Pass ⟨0, 0, 0, 0⟩)
abbrev s_is_small_letter : Stmt := top 19
abbrev s_is_word : Stmt := top 20
abbrev s_is_between : Stmt := top 25
abbrev s_check_number : Stmt := top 26
abbrev s_check_near_form : Stmt := top 27
abbrev s_near_prices : Stmt := top 28
abbrev s_Terms___init__ : Stmt := inClass (top 29) 0
abbrev s_Terms_pair_worth : Stmt := inClass (top 29) 1
abbrev s_greatest : Stmt := top 2
abbrev s_less : Stmt := top 3
abbrev s_begun_or_gone_on : Stmt := top 4
abbrev s_Trails_brought_behind : Stmt := inClass (top 5) 1
abbrev s_Trails___init__ : Stmt := inClass (top 5) 0
abbrev s_shut_by : Stmt := top 7
abbrev s_open_worths : Stmt := top 8
abbrev s_read_backwards : Stmt := top 9
abbrev s_starting_table : Stmt := top 10
abbrev s_through_worth : Stmt := top 11
abbrev s_best_through : Stmt := top 12
abbrev s__law_at : Stmt := top 31
abbrev s__law_whole : Stmt := top 32
abbrev s__law_bank : Stmt := top 33
abbrev s__law_book : Stmt := top 34
abbrev s__law_quote : Stmt := top 35
abbrev s__law_numbers : Stmt := top 36
abbrev s__law_near : Stmt := top 37
abbrev s__law_case : Stmt := top 38
abbrev s__law_pair : Stmt := top 39
abbrev s__law_worth : Stmt := top 40
abbrev s__law_ways : Stmt := top 41
abbrev s__law_texts : Stmt := top 42
abbrev s__law_table : Stmt := top 43
abbrev s__law_taken : Stmt := top 44
abbrev s__law_terms : Stmt := top 45
abbrev s__law_asked : Stmt := top 46
abbrev s_law : Stmt := top 47
section
variable {P : Program} {w : World} {K : W.Frag} {mg : Str → Option Value} {base : Heap}
variable {C_BadTerms C_BadNear C_Terms C_Trails : Addr}
theorem sc_is_small_letter : FnScope ["sign"] ["sign"] (defScope s_is_small_letter) := ⟨rfl, rfl, rfl, by decide +kernel, rfl, by decide +kernel, by decide +kernel⟩
theorem ok_is_small_letter {f : Addr} {fd : FuncData} (F : Fun K "is_small_letter" "is_small_letter" s_is_small_letter f fd) (T : TB mg) : FnOk P w K mg base (CXF P w) true 1 f fd ["sign"] sp_low := by
  refine F.okX sc_is_small_letter (fun vs H Q E h => ?_) (fun cdv A outer s H vs Q E hr h hX => ?_)
  · obtain ⟨i, rfl, _⟩ := h
    rfl
  · obtain ⟨c, rfl, q⟩ := h
    refine ⟨_, (@pss_one _ _ _ (@ps_ret _ _ _ _ (@pe_and _ _ _ _ _ _ _ (@pe_cmpR _ _ _ _ _ _ _ _ op_le_str pe_str (pv 0) (nomark _)) (@pe_one _ _ _ _ _ (@pe_cmpR _ _ _ _ _ _ _ _ op_le_str (pv 0) pe_str (nomark _)))))), ?_⟩
    refine ⟨_, rfl, _, _, rfl, rfl, _, rfl, ?_⟩
    have q : Q (.bl (decide (97 ≤ c) && decide (c ≤ 122))) H := q
    rw [← le_a, ← le_z] at q
    refine ite2 (fun h => ?_) (fun h => ?_)
    · refine ⟨_, rfl, _, _, rfl, rfl, ?_⟩
      rw [h, Bool.true_and] at q
      exact q
    · rw [Bool.not_eq_true] at h
      rw [h, Bool.false_and] at q
      exact q
theorem sc_is_word : FnScope ["text"] ["text"] (defScope s_is_word) := ⟨rfl, rfl, rfl, by decide +kernel, rfl, by decide +kernel, by decide +kernel⟩
theorem ok_is_word {f : Addr} {fd : FuncData} (F : Fun K "is_word" "is_word" s_is_word f fd) (T : TB mg) (c_WORD_MOST : Con mg "WORD_MOST" (.int 12)) (D_is_small_letter : IsDef P w K mg base true 1 "is_small_letter" ["sign"] sp_low) : FnOk P w K mg base (CXF P w) true 2 f fd ["text"] sp_word := by
  refine F.okX sc_is_word (fun vs H Q E h => ?_) (fun cdv A outer s H vs Q E hr h hX => ?_)
  · obtain ⟨i, rfl, _⟩ := h
    rfl
  · obtain ⟨z, rfl, hz, q⟩ := h
    refine ⟨_, (@pss_cons _ _ _ _ _ (@ps_if _ _ _ _ _ _ _ _ (@PW.pt _ _ _ (@pw_or _ _ _ _ _ _ _ (@pt_cmpR _ _ _ _ _ _ _ _ op_lt (@pe_callB _ _ _ _ _ _ _ _ _ call_len_str (by exact rfl) T.n_len PyProof.Rows.Boot.«len» (@pa_c _ _ _ _ _ (pv 0) pa_nil (by rfl)) (by decide) (by decide) (by rfl) (by rfl)) pe_int (nomark _)) (@pw_or1 _ _ _ _ (@pt_cmpR _ _ _ _ _ _ _ _ op_gt (@pe_callB _ _ _ _ _ _ _ _ _ call_len_str (by exact rfl) T.n_len PyProof.Rows.Boot.«len» (@pa_c _ _ _ _ _ (pv 0) pa_nil (by rfl)) (by decide) (by decide) (by rfl) (by rfl)) (@pe_con' _ _ _ _ c_WORD_MOST (by rfl) (by decide)) (nomark _))))) (@pss_one _ _ _ (@ps_ret _ _ _ _ pe_bl)) pss_nil) (@pss_one _ _ _ (@ps_ret _ _ _ _ (@pe_callB _ _ _ _ _ _ _ _ _ (call_allK K rfl) (by exact rfl) T.n_all PyProof.Rows.Boot.«all» (@pa_c _ _ _ _ _ (@pe_comp _ _ _ _ _ _ _ _ _ _ _ _ _ _ (by exact rfl) (show CompScope ["text"] (defScope s_is_word) _ ["sign"] [] [] from ⟨rfl, by decide +kernel, by decide +kernel, by decide +kernel, rfl, rfl, by decide +kernel, by decide +kernel, by decide +kernel⟩) (@pi_str _ _ _ _ (pv 0)) (fun _ _ _ _ _ => (@pg_name _ _ (0) _ (show (["sign"] : List Str).Nodup by decide +kernel) (by exact rfl) (Or.inl rfl) (by first | exact .inl rfl | exact .inr rfl | assumption))) (fun _ _ _ _ _ => pts_nil) (fun _ _ _ _ _ => (@pe_def _ _ _ _ _ _ _ _ _ _ _ _ D_is_small_letter (hr.mono (by decide)) passF (@pa_c _ _ _ _ _ (pv 0) pa_nil (by rfl)) (by rfl) (by decide) (by rfl) (by rfl))) (by intro _; rfl)) pa_nil (by rfl)) (by decide) (by decide) (by rfl) (by rfl))))), ?_⟩
    have hz' : z.length ≤ sizeLine := Nat.le_trans hz (by decide)
    refine ⟨_, rfl, z, rfl, hz', _, _, rfl, rfl, _, rfl, ?_⟩
    refine ite2 (fun h => ?_) (fun h => ?_)
    · have h : ((z.length : Nat) : Int) < 1 := by simpa using h
      refine iteT ?_
      have e : isW z = false := by
        have : ¬ 1 ≤ z.length := by omega
        simp [isW, this]
      have q := q H (Same.refl H)
      rw [e] at q
      exact q
    have h : ¬ ((z.length : Nat) : Int) < 1 := by simpa using h
    refine ⟨_, rfl, z, rfl, hz', _, _, rfl, rfl, _, rfl, ?_⟩
    refine ite2 (fun h2 => ?_) (fun h2 => ?_)
    · have h2 : (12 : Int) < ((z.length : Nat) : Int) := by simpa using h2
      have e : isW z = false := by
        have : ¬ z.length ≤ 12 := by omega
        simp [isW, this]
      have q := q H (Same.refl H)
      rw [e] at q
      exact q
    have h2 : ¬ (12 : Int) < ((z.length : Nat) : Int) := by simpa using h2
    have hl : z.length ≤ 12 := by omega
    have e : isW z = z.cps.toList.all low := by
      have h3 : 1 ≤ z.length := by omega
      simp [isW, h3, hl]
    -- the block
    refine ⟨_, rfl, z, rfl, fun D hD => ?_⟩
    refine comp_str (fun i ys σ H' => (∃ v, σ = [v]) ∧ ys = (z.cps.toList.take i).map (fun c => V.bl (low c)) ∧ H' = upd H D (.lst ys)) ⟨⟨_, rfl⟩, rfl, rfl⟩ ?_ ?_
    · rintro i c ys σ H' hc ⟨⟨v, rfl⟩, hy, rfl⟩
      refine gN_yes ?_
      refine ⟨_, rfl, c, rfl, upd_same, ?_, ⟨_, rfl⟩, ?_, ?_⟩
      · rw [hy, List.length_map, List.length_take]
        exact Nat.lt_of_le_of_lt (Nat.min_le_left _ _) (Nat.lt_of_lt_of_le (Nat.lt_of_lt_of_le (List.getElem?_eq_some_iff.mp hc).1 (by simpa [Str.length] using hl)) (by decide))
      · rw [hy, List.take_succ, hc]
        simp
      · rw [upd_upd]
    · rintro ys σ H' ⟨_, hy, rfl⟩
      have hy2 : ys = (z.cps.toList.map low).map V.bl := by
        rw [hy, List.take_of_length_le (by simp [Str.length])]
        simp
      rw [hy2]
      refine ⟨D, z.cps.toList.map low, rfl, SqL.of upd_same, ?_⟩
      have q := q _ (Same.upd hD : Same H (upd H D (.lst ((z.cps.toList.map low).map V.bl))))
      rw [e] at q
      have e3 : (z.cps.toList.map low).all id = z.cps.toList.all low := by rw [List.all_map]; rfl
      rw [← e3] at q
      exact q
theorem sc_is_between : FnScope ["low", "number", "high"] ["low", "number", "high"] (defScope s_is_between) := ⟨rfl, rfl, rfl, by decide +kernel, rfl, by decide +kernel, by decide +kernel⟩
theorem ok_is_between {f : Addr} {fd : FuncData} (F : Fun K "is_between" "is_between" s_is_between f fd) (T : TB mg) : FnOk P w K mg base (CXF P w) true 1 f fd ["low", "number", "high"] sp_between := by
  refine F.okX sc_is_between (fun vs H Q E h => ?_) (fun cdv A outer s H vs Q E hr h hX => ?_)
  · obtain ⟨l, n, h, rfl, _⟩ := h
    rfl
  · obtain ⟨l, n, h, rfl, q⟩ := h
    refine ⟨_, (@pss_one _ _ _ (@ps_ret _ _ _ _ (@pe_and _ _ _ _ _ _ _ (@pe_cmpR _ _ _ _ _ _ _ _ op_le (pv 0) (pv 1) (nomark _)) (@pe_one _ _ _ _ _ (@pe_cmpR _ _ _ _ _ _ _ _ op_le (pv 1) (pv 2) (nomark _)))))), ?_⟩
    refine ⟨_, rfl, _, rfl, _, _, rfl, rfl, _, rfl, ?_⟩
    refine ite2 (fun h1 => ?_) (fun h1 => ?_)
    · refine ⟨_, rfl, _, rfl, _, _, rfl, rfl, ?_⟩
      rw [h1, Bool.true_and] at q
      exact q
    · rw [Bool.not_eq_true] at h1
      rw [h1, Bool.false_and] at q
      exact q
theorem sc_check_number : FnScope ["name", "number", "low", "high"] ["name", "number", "low", "high"] (defScope s_check_number) := ⟨rfl, rfl, rfl, by decide +kernel, rfl, by decide +kernel, by decide +kernel⟩
theorem ok_check_number {f : Addr} {fd : FuncData} (F : Fun K "check_number" "check_number" s_check_number f fd) (T : TB mg) (D_is_between : IsDef P w K mg base true 1 "is_between" ["low", "number", "high"] sp_between) (e_BadTerms : Er K mg "BadTerms" C_BadTerms) : FnOk P w K mg base (CXF P w) true 2 f fd ["name", "number", "low", "high"] (sp_number C_BadTerms) := by
  refine F.okX sc_check_number (fun vs H Q E h => ?_) (fun cdv A outer s H vs Q E hr h hX => ?_)
  · obtain ⟨nm, n, l, h, rfl, _⟩ := h
    rfl
  · obtain ⟨nm, n, l, h, rfl, hn, hl, hh, q⟩ := h
    refine ⟨_, (@pss_one _ _ _ (@ps_if _ _ _ _ _ _ _ _ (@pt_not _ _ _ _ (@pt_val _ _ _ (@pe_def _ _ _ _ _ _ _ _ _ _ _ _ D_is_between (hr.mono (by decide)) passF (@pa_c _ _ _ _ _ (pv 2) (@pa_c _ _ _ _ _ (pv 1) (@pa_c _ _ _ _ _ (pv 3) pa_nil (by rfl)) (by rfl)) (by rfl)) (by rfl) (by decide) (by rfl) (by rfl)) (by intro _; rfl))) (@pss_one _ _ _ (@ps_raise _ _ _ _ _ _ _ _ _ _ hX (by exact rfl) (by exact rfl) e_BadTerms.m e_BadTerms.e (@pa_c _ _ _ _ _ (@pe_joined _ _ _ _ _ _ (@pj_cons _ _ _ _ _ (@pe_fmt _ _ _ _ (pv 0)) (@pj_cons _ _ _ _ _ pe_str (@pj_cons _ _ _ _ _ (@pe_fmt _ _ _ _ (pv 2)) (@pj_cons _ _ _ _ _ pe_str (@pj_cons _ _ _ _ _ (@pe_fmt _ _ _ _ (pv 3)) pj_nil)))))) pa_nil (by rfl)) (by decide) (by rfl) (by rfl))) pss_nil)), ?_⟩
    refine ⟨_, rfl, _, rfl, _, rfl, l, n, h, rfl, ?_⟩
    refine ⟨_, rfl, ?_⟩
    refine ite2 (fun h1 => ?_) (fun h1 => ?_)
    · have h1 : inR l n h = false := (Bool.not_eq_true' _).mp h1
      rw [h1] at q
      have z1 := told_int (i := l) (by omega)
      have z2 := told_int (i := h) (by omega)
      have w1 : (Str.ofString " lies between ").length = 14 := by decide +kernel
      have w2 : (Str.ofString " and ").length = 5 := by decide +kernel
      have w3 := len_empty
      refine ⟨_, rfl, .inl ⟨nm, rfl, le_line (by omega), nm, rfl, le_line ?_, _, rfl, le_line ?_, _, rfl, .inr ⟨l, rfl, z1.1, _, rfl, le_line ?_, _, rfl, le_line ?_, _, rfl, .inr ⟨h, rfl, z2.1, _, rfl, le_line ?_, le_line ?_, one_line, ?_⟩⟩⟩⟩
      · rw [len_app]; omega
      · rw [len_app, len_app]; omega
      · rw [len_app, len_app, len_app]; omega
      · rw [len_app, len_app, len_app, len_app]; omega
      · rw [len_app, len_app, len_app, len_app, len_app]; omega
      · rw [len_app, len_app, len_app, len_app, len_app]; omega
      · exact q
    · have h1 : inR l n h = true := by
        have h1 : ¬ (!(inR l n h)) = true := h1
        simpa using h1
      rw [h1] at q
      exact q
theorem sc_check_near_form : FnScope ["x", "y", "price"] ["x", "y", "price"] (defScope s_check_near_form) := ⟨rfl, rfl, rfl, by decide +kernel, rfl, by decide +kernel, by decide +kernel⟩
theorem ok_check_near_form {f : Addr} {fd : FuncData} (F : Fun K "check_near_form" "check_near_form" s_check_near_form f fd) (T : TB mg) (c_WORTH_MOST : Con mg "WORTH_MOST" (.int 999999)) (D_is_word : IsDef P w K mg base true 2 "is_word" ["text"] sp_word) (D_is_between : IsDef P w K mg base true 1 "is_between" ["low", "number", "high"] sp_between) (e_BadNear : Er K mg "BadNear" C_BadNear) : FnOk P w K mg base (CXF P w) true 3 f fd ["x", "y", "price"] (sp_form C_BadNear) := by
  refine F.okX sc_check_near_form (fun vs H Q E h => ?_) (fun cdv A outer s H vs Q E hr h hX => ?_)
  · obtain ⟨x, y, p, rfl, _⟩ := h
    rfl
  · obtain ⟨x, y, p, rfl, hx, hy, q⟩ := h
    have bad : formOk x y p = false → ∀ H', Same H H' → E (.ref C_BadNear) none H' := fun e => by rw [e] at q; exact q
    have good : formOk x y p = true → ∀ H', Same H H' → Q .non H' := fun e => by rw [e] at q; exact q
    refine ⟨_, (@pss_cons _ _ _ _ _ (@ps_if _ _ _ _ _ _ _ _ (@PW.pt _ _ _ (@pw_or _ _ _ _ _ _ _ (@pt_not _ _ _ _ (@pt_val _ _ _ (@pe_def _ _ _ _ _ _ _ _ _ _ _ _ D_is_word (hr.mono (by decide)) passF (@pa_c _ _ _ _ _ (pv 0) pa_nil (by rfl)) (by rfl) (by decide) (by rfl) (by rfl)) (by intro _; rfl))) (@pw_or1 _ _ _ _ (@pt_not _ _ _ _ (@pt_val _ _ _ (@pe_def _ _ _ _ _ _ _ _ _ _ _ _ D_is_word (hr.mono (by decide)) passF (@pa_c _ _ _ _ _ (pv 1) pa_nil (by rfl)) (by rfl) (by decide) (by rfl) (by rfl)) (by intro _; rfl)))))) (@pss_one _ _ _ (@ps_raise _ _ _ _ _ _ _ _ _ _ hX (by exact rfl) (by exact rfl) e_BadNear.m e_BadNear.e (@pa_c _ _ _ _ _ pe_str pa_nil (by rfl)) (by decide) (by rfl) (by rfl))) pss_nil) (@pss_cons _ _ _ _ _ (@ps_if _ _ _ _ _ _ _ _ (@pt_cmpR _ _ _ _ _ _ _ _ op_eq (pv 0) (pv 1) (nomark _)) (@pss_one _ _ _ (@ps_raise _ _ _ _ _ _ _ _ _ _ hX (by exact rfl) (by exact rfl) e_BadNear.m e_BadNear.e (@pa_c _ _ _ _ _ pe_str pa_nil (by rfl)) (by decide) (by rfl) (by rfl))) pss_nil) (@pss_one _ _ _ (@ps_if _ _ _ _ _ _ _ _ (@pt_not _ _ _ _ (@pt_val _ _ _ (@pe_def _ _ _ _ _ _ _ _ _ _ _ _ D_is_between (hr.mono (by decide)) passF (@pa_c _ _ _ _ _ pe_int (@pa_c _ _ _ _ _ (pv 2) (@pa_c _ _ _ _ _ (@pe_con' _ _ _ _ c_WORTH_MOST (by rfl) (by decide)) pa_nil (by rfl)) (by rfl)) (by rfl)) (by rfl) (by decide) (by rfl) (by rfl)) (by intro _; rfl))) (@pss_one _ _ _ (@ps_raise _ _ _ _ _ _ _ _ _ _ hX (by exact rfl) (by exact rfl) e_BadNear.m e_BadNear.e (@pa_c _ _ _ _ _ (@pe_joined _ _ _ _ _ _ (@pj_cons _ _ _ _ _ pe_str (@pj_cons _ _ _ _ _ (@pe_fmt _ _ _ _ (@pe_con' _ _ _ _ c_WORTH_MOST (by rfl) (by decide))) pj_nil))) pa_nil (by rfl)) (by decide) (by rfl) (by rfl))) pss_nil)))), ?_⟩
    refine ⟨_, rfl, x, rfl, hx, fun H1 s1 => ⟨_, rfl, ?_⟩⟩
    refine ite2 (fun h1 => ?_) (fun h1 => ?_)
    · have h1 : (!(isW x)) = true := h1
      exact ⟨one_line, bad (by simp [formOk, (Bool.not_eq_true' _).mp h1]) H1 s1⟩
    have h1 : ¬ (!(isW x)) = true := h1
    have h1 : isW x = true := by simpa using h1
    refine ⟨_, rfl, y, rfl, hy, fun H2 s2 => ⟨_, rfl, ?_⟩⟩
    have s2 := s1.trans s2
    refine ite2 (fun h2 => ?_) (fun h2 => ?_)
    · have h2 : (!(isW y)) = true := h2
      exact ⟨one_line, bad (by simp [formOk, (Bool.not_eq_true' _).mp h2]) H2 s2⟩
    have h2 : ¬ (!(isW y)) = true := h2
    have h2 : isW y = true := by simpa using h2
    refine ⟨_, rfl, _, rfl, rfl, _, rfl, ?_⟩
    refine ite2 (fun h3 => ?_) (fun h3 => ?_)
    · have h3 : x = y := by simpa using h3
      exact ⟨one_line, bad (by simp [formOk, h3]) H2 s2⟩
    have h3 : ¬ x = y := by simpa using h3
    refine ⟨_, rfl, 0, p, 999999, rfl, _, rfl, ?_⟩
    refine ite2 (fun h4 => ?_) (fun h4 => ?_)
    · have h4 : (!(inR 0 p 999999)) = true := h4
      have z1 := told_int (i := 999999) (by omega)
      have w1 : (Str.ofString "the price of a near form lies between 0 and ").length = 44 := by decide +kernel
      have w3 := len_empty
      refine ⟨_, rfl, le_line ?_, .inr ⟨999999, rfl, z1.1, _, rfl, le_line ?_, le_line ?_, one_line, ?_⟩⟩
      · rw [len_app]; omega
      · rw [len_app, len_app]; omega
      · rw [len_app, len_app]; omega
      · exact bad (by simp [formOk, (Bool.not_eq_true' _).mp h4]) H2 s2
    · have h4 : ¬ (!(inR 0 p 999999)) = true := h4
      have h4 : inR 0 p 999999 = true := by simpa using h4
      exact good (by simp [formOk, h1, h2, h3, h4]) H2 s2
theorem sc_near_prices : FnScope ["near", "prices", "x", "y", "price"] ["near"] (defScope s_near_prices) := ⟨rfl, rfl, rfl, by decide +kernel, rfl, by decide +kernel, by decide +kernel⟩
theorem ok_near_prices {f : Addr} {fd : FuncData} (F : Fun K "near_prices" "near_prices" s_near_prices f fd) (T : TB mg) (c_NEAR_MOST : Con mg "NEAR_MOST" (.int 60)) (D_check_near_form : IsDef P w K mg base true 3 "check_near_form" ["x", "y", "price"] (sp_form C_BadNear)) (e_BadNear : Er K mg "BadNear" C_BadNear) : FnOk P w K mg base (CXF P w) true 4 f fd ["near"] (sp_prices C_BadNear) := by
  refine F.okX sc_near_prices (fun vs H Q E h => ?_) (fun cdv A outer s H vs Q E hr h hX => ?_)
  · obtain ⟨a, xs, fs, rfl, _⟩ := h
    rfl
  · obtain ⟨a, xs, fs, rfl, ha, ht, hsh, q⟩ := h
    have bad : goodNear fs = false → ∀ H', Same H H' → E (.ref C_BadNear) none H' := fun e => by rw [e] at q; exact q
    have good : goodNear fs = true → ∀ H' d, Same H H' → H d = none → H' d = some (.dT (fs.map kvOf)) → Q (.ref d) H' := fun e => by rw [e] at q; exact q
    have hu := hr.units
    have hu : (A.deeper (PyProof.Rows.envOfC "near_prices" (defScope s_near_prices) s.heap.objs.size f cdv)).units + 1 < cLine := by omega
    refine ⟨_, (@pss_cons _ _ _ _ _ (@ps_if _ _ _ _ _ _ _ _ (@pt_cmpR _ _ _ _ _ _ _ _ op_gt (@pe_callB _ _ _ _ _ _ _ _ _ (call_len_seqK K) (by exact rfl) T.n_len PyProof.Rows.Boot.«len» (@pa_c _ _ _ _ _ (pv 0) pa_nil (by rfl)) (by decide) (by decide) (by rfl) (by rfl)) (@pe_con' _ _ _ _ c_NEAR_MOST (by rfl) (by decide)) (nomark _)) (@pss_one _ _ _ (@ps_raise _ _ _ _ _ _ _ _ _ _ hX (by exact rfl) (by exact rfl) e_BadNear.m e_BadNear.e (@pa_c _ _ _ _ _ (@pe_joined _ _ _ _ _ _ (@pj_cons _ _ _ _ _ pe_str (@pj_cons _ _ _ _ _ (@pe_fmt _ _ _ _ (@pe_con' _ _ _ _ c_NEAR_MOST (by rfl) (by decide))) (@pj_cons _ _ _ _ _ pe_str pj_nil)))) pa_nil (by rfl)) (by decide) (by rfl) (by rfl))) pss_nil) (@pss_cons _ _ _ _ _ (@ps_set _ _ (1) _ _ _ _ sc_near_prices.nd (by exact rfl) (Or.inl rfl) pe_dnewT (by rfl) (by first | exact .inl rfl | exact .inr rfl | assumption)) (@pss_cons _ _ _ _ _ (@ps_for _ _ _ _ _ _ _ _ hX.own (by exact rfl) (@pi_listK _ K _ _ _ (pv 0) (by rfl)) (@pg_tupK _ K _ _ _ (3) _ (by exact rfl) (@pgs_cons _ _ _ _ _ (@pg_name _ _ (2) _ sc_near_prices.nd (by exact rfl) (Or.inl rfl) (by first | exact .inl rfl | exact .inr rfl | assumption)) (@pgs_cons _ _ _ _ _ (@pg_name _ _ (3) _ sc_near_prices.nd (by exact rfl) (Or.inl rfl) (by first | exact .inl rfl | exact .inr rfl | assumption)) (@pgs_cons _ _ _ _ _ (@pg_name _ _ (4) _ sc_near_prices.nd (by exact rfl) (Or.inl rfl) (by first | exact .inl rfl | exact .inr rfl | assumption)) pgs_nil (by rfl)) (by rfl)) (by rfl)) (by rfl) (by rfl) (by rfl)) (@pss_cons _ _ _ _ _ (@ps_expr _ _ _ _ (@pe_def _ _ _ _ _ _ _ _ _ _ _ _ D_check_near_form (hr.mono (by decide)) hX.pass (@pa_c _ _ _ _ _ (pv 2) (@pa_c _ _ _ _ _ (pv 3) (@pa_c _ _ _ _ _ (pv 4) pa_nil (by rfl)) (by rfl)) (by rfl)) (by rfl) (by decide) (by rfl) (by rfl)) (by rfl)) (@pss_cons _ _ _ _ _ (@ps_if _ _ _ _ _ _ _ _ (@pt_cmp _ _ _ _ _ _ (@pc_din _ _ _ _ _ hu (@pe_tup _ _ _ _ _ (@pa_c _ _ _ _ _ (pv 2) (@pa_c _ _ _ _ _ (pv 3) pa_nil (by rfl)) (by rfl))) (pv 1)) (by first | exact nobehind _ (by decide) (by decide) | rfl)) (@pss_one _ _ _ (@ps_raise _ _ _ _ _ _ _ _ _ _ hX (by exact rfl) (by exact rfl) e_BadNear.m e_BadNear.e (@pa_c _ _ _ _ _ pe_str pa_nil (by rfl)) (by decide) (by rfl) (by rfl))) pss_nil) (@pss_one _ _ _ (@ps_dput _ _ _ _ _ _ _ _ _ hu (pv 1) (@pe_tup _ _ _ _ _ (@pa_c _ _ _ _ _ (pv 2) (@pa_c _ _ _ _ _ (pv 3) pa_nil (by rfl)) (by rfl))) (pv 4) (by exact rfl))))) (by intro _; rfl)) (@pss_one _ _ _ (@ps_ret _ _ _ _ (pv 1)))))), ?_⟩
    refine ⟨_, rfl, a, _, rfl, .inl (.of ha), _, _, rfl, rfl, _, rfl, ?_⟩
    refine ite2 (fun h1 => ?_) (fun h1 => ?_)
    · have h1 : (60 : Int) < (xs.length : Int) := by simpa using h1
      rw [ht.1] at h1
      have z1 := told_int (i := 60) (by omega)
      have w1 : (Str.ofString "there are at most ").length = 18 := by decide +kernel
      have w2 : (Str.ofString " near forms").length = 11 := by decide +kernel
      have w3 := len_empty
      refine ⟨_, rfl, le_line ?_, .inr ⟨60, rfl, z1.1, _, rfl, le_line ?_, _, rfl, le_line ?_, le_line ?_, one_line, ?_⟩⟩
      · rw [len_app]; omega
      · rw [len_app, len_app]; omega
      · rw [len_app, len_app, len_app]; omega
      · rw [len_app, len_app, len_app]; omega
      · exact bad (by have : ¬ fs.length ≤ 60 := by omega
                      simp [goodNear, this]) H (.refl H)
    have h1 : ¬ (60 : Int) < (xs.length : Int) := by simpa using h1
    rw [ht.1] at h1
    refine fun d hd => ?_
    have had : H a ≠ none := by rw [ha]; intro z; cases z
    have hne : a ≠ d := ne_of_none ha hd
    refine ⟨_, rfl, a, rfl, ⟨xs, .of (by rw [upd_ne hne]; exact ha)⟩, ?_⟩
    refine for_list (xs := xs) (fun i σ H' => (∃ u v w, σ = [some (.ref a), some (.ref d), u, v, w]) ∧ H' d = some (.dT ((fs.take i).map kvOf)) ∧ Same H H' ∧ ((fs.take i).all fOk = true) ∧ ((fs.take i).map key2).Nodup) ?_ ?_ ?_ ?_
    · exact ⟨⟨_, _, _, rfl⟩, upd_same, Same.upd hd, rfl, .nil⟩
    · rintro i σ H' hi ⟨_, _, s1, _⟩
      exact .of (s1 _ _ ha)
    · rintro i x σ H' hx ⟨⟨u, v, w, rfl⟩, hD, s1, hok, hnd⟩
      have hi : i < fs.length := by rw [← ht.1]; exact (List.getElem?_eq_some_iff.mp hx).1
      have hf : fs[i]? = some fs[i] := by simp [hi]
      generalize fs[i] = f0 at hf
      obtain ⟨t, ht1, ht2⟩ := ht.2 i f0 hf
      rw [hx] at ht1
      cases ht1
      obtain ⟨x, y, p⟩ := f0
      have hm : (x, y, p) ∈ fs := List.mem_of_getElem? hf
      obtain ⟨hx1, hy1⟩ := hsh.2 _ hm
      refine ⟨t, _, rfl, .of (s1 _ _ ht2), rfl, _, _, rfl, _, _, rfl, _, _, rfl, rfl, ?_⟩
      refine ⟨_, rfl, _, rfl, _, rfl, x, y, p, rfl, hx1, hy1, ?_⟩
      refine ite2 (fun h2 => ?_) (fun h2 => ?_)
      rotate_left
      · have h2 : fOk (x, y, p) = false := by simpa [fOk] using h2
        exact fun H2 s2 => bad (bad_form hf h2) H2 (s1.trans s2)
      have h2 : fOk (x, y, p) = true := h2
      intro H2 s2
      have s2' := s1.trans s2
      have hD2 := s2 _ _ hD
      refine ⟨_, rfl, _, rfl, le_line (by simp), fun p1 hp1 => ?_⟩
      have n1 : d ≠ p1 := ne_of_none hD2 hp1
      refine ⟨_, rfl, d, _, rfl, .t (k := key2 (x, y, p)) (by rw [upd_ne n1]; exact hD2) upd_same, _, rfl, ?_⟩
      refine ite2 (fun h3 => ?_) (fun h3 => ?_)
      · obtain ⟨v3, h3⟩ := Option.isSome_iff_exists.mp h3
        exact ⟨one_line, bad (bad_twice hf (kv_yes h3)) _ (s2'.upd2 (s2'.free hp1))⟩
      have h3 : valV ((fs.take i).map kvOf) (key2 (x, y, p)) = none := by simpa using h3
      have s3 : Same H (upd H2 p1 (.tup [.str x, .str y])) := s2'.upd2 (s2'.free hp1)
      refine ⟨_, rfl, _, rfl, _, rfl, _, rfl, le_line (by simp), fun p2 hp2 => ?_⟩
      have hD3 : upd H2 p1 (.tup [.str x, .str y]) d = some (.dT ((fs.take i).map kvOf)) := by rw [upd_ne n1]; exact hD2
      have n2 : d ≠ p2 := ne_of_none hD3 hp2
      have hlen : ((fs.take i).map kvOf).length < sizeLine := lt_line (by rw [List.length_map, List.length_take]; omega)
      refine ⟨d, _, rfl, .t (k := key2 (x, y, p)) (by rw [upd_ne n2]; exact hD3) upd_same hlen, ?_⟩
      refine ⟨⟨_, _, _, rfl⟩, ?_, ?_, ?_, ?_⟩
      · rw [upd_same, putK_new _ h3, good_step hf]; rfl
      · exact (s3.upd2 (s3.free hp2)).upd2 hd
      · rw [List.take_succ, hf, List.all_append, hok]
        simp [h2]
      · rw [List.take_succ, hf, List.map_append]
        have := kv_no h3
        refine List.nodup_append.mpr ⟨hnd, by simp, ?_⟩
        intro a1 ha1 b1 hb1 e
        have hb1 : b1 = key2 (x, y, p) := by simpa using hb1
        rw [e, hb1] at ha1
        exact this ha1
    · rintro σ H' ⟨⟨u, v, w, rfl⟩, hD, s1, hok, hnd⟩
      rw [ht.1, List.take_length] at hD hok hnd
      refine ⟨_, rfl, good ?_ H' d s1 hd hD⟩
      have : fs.length ≤ 60 := by omega
      simp [goodNear, this, hok, hnd]
theorem sc_Terms___init__ : FnScope ["self", "same", "out", "into", "least", "part", "near"] ["self", "same", "out", "into", "least", "part", "near"] (defScope s_Terms___init__) := ⟨rfl, rfl, rfl, by decide +kernel, rfl, by decide +kernel, by decide +kernel⟩
theorem ok_Terms___init__ {f : Addr} {fd : FuncData} (F : FunD K "__init__" "Terms.__init__" s_Terms___init__ f fd) (T : TB mg) (c_WORTH_MOST : Con mg "WORTH_MOST" (.int 999999)) (c_PART_MOST : Con mg "PART_MOST" (.int 100)) (D_check_number : IsDef P w K mg base true 2 "check_number" ["name", "number", "low", "high"] (sp_number C_BadTerms)) (D_near_prices : IsDef P w K mg base true 4 "near_prices" ["near"] (sp_prices C_BadNear)) (Tc : TermsC K C_Terms) : FnOk P w K mg base (CXF P w) true 5 f fd ["self", "same", "out", "into", "least", "part", "near"] (sp_init C_Terms C_BadTerms C_BadNear) := by
  refine F.okX sc_Terms___init__ (fun vs H Q E h => ?_) (fun cdv A outer s H vs Q E hr h hX => ?_)
  · obtain ⟨x, dx, n, nv, xs, fs, rfl, _⟩ := h
    rfl
  · obtain ⟨x, dx, n, nv, xs, fs, rfl, hx, hdx, hnv, hsh, q⟩ := h
    have bad : okNums n = false → E (.ref C_BadTerms) none H := fun e => by rw [e] at q; exact q H .refl
    refine ⟨_, (@pss_cons _ _ _ _ _ (@ps_expr _ _ _ _ (@pe_def _ _ _ _ _ _ _ _ _ _ _ _ D_check_number (hr.mono (by decide)) hX.pass (@pa_c _ _ _ _ _ pe_str (@pa_c _ _ _ _ _ (pv 1) (@pa_c _ _ _ _ _ pe_int (@pa_c _ _ _ _ _ (@pe_con' _ _ _ _ c_WORTH_MOST (by rfl) (by decide)) pa_nil (by rfl)) (by rfl)) (by rfl)) (by rfl)) (by rfl) (by decide) (by rfl) (by rfl)) (by rfl)) (@pss_cons _ _ _ _ _ (@ps_expr _ _ _ _ (@pe_def _ _ _ _ _ _ _ _ _ _ _ _ D_check_number (hr.mono (by decide)) hX.pass (@pa_c _ _ _ _ _ pe_str (@pa_c _ _ _ _ _ (pv 2) (@pa_c _ _ _ _ _ pe_int (@pa_c _ _ _ _ _ (@pe_con' _ _ _ _ c_WORTH_MOST (by rfl) (by decide)) pa_nil (by rfl)) (by rfl)) (by rfl)) (by rfl)) (by rfl) (by decide) (by rfl) (by rfl)) (by rfl)) (@pss_cons _ _ _ _ _ (@ps_expr _ _ _ _ (@pe_def _ _ _ _ _ _ _ _ _ _ _ _ D_check_number (hr.mono (by decide)) hX.pass (@pa_c _ _ _ _ _ pe_str (@pa_c _ _ _ _ _ (pv 3) (@pa_c _ _ _ _ _ pe_int (@pa_c _ _ _ _ _ (@pe_con' _ _ _ _ c_WORTH_MOST (by rfl) (by decide)) pa_nil (by rfl)) (by rfl)) (by rfl)) (by rfl)) (by rfl) (by decide) (by rfl) (by rfl)) (by rfl)) (@pss_cons _ _ _ _ _ (@ps_expr _ _ _ _ (@pe_def _ _ _ _ _ _ _ _ _ _ _ _ D_check_number (hr.mono (by decide)) hX.pass (@pa_c _ _ _ _ _ pe_str (@pa_c _ _ _ _ _ (pv 4) (@pa_c _ _ _ _ _ pe_int (@pa_c _ _ _ _ _ (@pe_con' _ _ _ _ c_WORTH_MOST (by rfl) (by decide)) pa_nil (by rfl)) (by rfl)) (by rfl)) (by rfl)) (by rfl) (by decide) (by rfl) (by rfl)) (by rfl)) (@pss_cons _ _ _ _ _ (@ps_expr _ _ _ _ (@pe_def _ _ _ _ _ _ _ _ _ _ _ _ D_check_number (hr.mono (by decide)) hX.pass (@pa_c _ _ _ _ _ pe_str (@pa_c _ _ _ _ _ (pv 5) (@pa_c _ _ _ _ _ pe_int (@pa_c _ _ _ _ _ (@pe_con' _ _ _ _ c_PART_MOST (by rfl) (by decide)) pa_nil (by rfl)) (by rfl)) (by rfl)) (by rfl)) (by rfl) (by decide) (by rfl) (by rfl)) (by rfl)) (@pss_cons _ _ _ _ _ (@ps_fldK _ K _ _ _ _ _ _ _ (pv 0) (pv 1) (by rfl) (by rfl)) (@pss_cons _ _ _ _ _ (@ps_fldK _ K _ _ _ _ _ _ _ (pv 0) (pv 2) (by rfl) (by rfl)) (@pss_cons _ _ _ _ _ (@ps_fldK _ K _ _ _ _ _ _ _ (pv 0) (pv 3) (by rfl) (by rfl)) (@pss_cons _ _ _ _ _ (@ps_fldK _ K _ _ _ _ _ _ _ (pv 0) (pv 4) (by rfl) (by rfl)) (@pss_cons _ _ _ _ _ (@ps_fldK _ K _ _ _ _ _ _ _ (pv 0) (pv 5) (by rfl) (by rfl)) (@pss_cut _ _ _ _ _ (@ps_fldK _ K _ _ _ _ _ _ _ (pv 0) (@pe_ifExp _ _ _ _ _ _ _ _ (@pt_cmp _ _ _ _ _ _ (@pc_isN _ _ _ _ _ (pv 6)) (by first | exact nobehind _ (by decide) (by decide) | rfl)) (@pe_lst _ _ _ _ pa_nil) (@pe_callTy _ _ _ _ _ _ _ _ _ (call_list_ofK K) (by exact rfl) T.n_list PyProof.Rows.Boot.«list» (@pa_c _ _ _ _ _ (pv 6) pa_nil (by rfl)) (by decide) (by decide) (by rfl) (by rfl))) (by rfl) (by rfl)) (@pss_one _ _ _ (@ps_fldK _ K _ _ _ _ _ _ _ (pv 0) (@pe_def _ _ _ _ _ _ _ _ _ _ _ _ D_near_prices (hr.mono (by decide)) hX.pass (@pa_c _ _ _ _ _ (@pe_fldK _ K _ _ _ _ (pv 0) (by rfl) (by rfl)) pa_nil (by rfl)) (by rfl) (by decide) (by rfl) (by rfl)) (by rfl) (by rfl)))))))))))))), ?_⟩
    refine ⟨_, rfl, "same", n.same, 1, 999999, rfl, by decide +kernel, by omega, by omega, ?_⟩
    refine ite2 (fun h1 => ?_) (fun h1 => bad (by simp [okNums, h1]))
    refine ⟨_, rfl, "out", n.out, 0, 999999, rfl, by decide +kernel, by omega, by omega, ?_⟩
    refine ite2 (fun h2 => ?_) (fun h2 => bad (by simp [okNums, h2]))
    refine ⟨_, rfl, "into", n.into, 0, 999999, rfl, by decide +kernel, by omega, by omega, ?_⟩
    refine ite2 (fun h3 => ?_) (fun h3 => bad (by simp [okNums, h3]))
    refine ⟨_, rfl, "least", n.least, 1, 999999, rfl, by decide +kernel, by omega, by omega, ?_⟩
    refine ite2 (fun h4 => ?_) (fun h4 => bad (by simp [okNums, h4]))
    refine ⟨_, rfl, "part", n.part, 1, 100, rfl, by decide +kernel, by omega, by omega, ?_⟩
    refine ite2 (fun h5 => ?_) (fun h5 => bad (by simp [okNums, h5]))
    have hok : okNums n = true := by simp [okNums, h1, h2, h3, h4, h5]
    rw [hok] at q
    have hl : ∀ k : Nat, k < 10 → k < 1000 := fun k h => by omega
    refine ⟨_, rfl, _, rfl, x, C_Terms, dx, _, rfl, hx, Tc.cl, Tc.same, by decide, ?_⟩
    refine ⟨_, rfl, _, rfl, x, C_Terms, dx, _, rfl, upd_same, Tc.cl, Tc.out, ?_, ?_⟩
    · exact hl _ (by have := length_putF "same" (.int n.same) []; simp at this; omega)
    refine ⟨_, rfl, _, rfl, x, C_Terms, dx, _, rfl, upd_same, Tc.cl, Tc.into, ?_, ?_⟩
    · exact hl _ (Nat.lt_of_le_of_lt (length_putF _ _ _) (by have := length_putF "same" (.int n.same) []; simp at this; omega))
    refine ⟨_, rfl, _, rfl, x, C_Terms, dx, _, rfl, upd_same, Tc.cl, Tc.least, ?_, ?_⟩
    · show ([("same", .int n.same), ("out", .int n.out), ("into", .int n.into)] : List (Str × V)).length < 1000
      simp
    refine ⟨_, rfl, _, rfl, x, C_Terms, dx, _, rfl, upd_same, Tc.cl, Tc.part, ?_, ?_⟩
    · show ([("same", .int n.same), ("out", .int n.out), ("into", .int n.into), ("least", .int n.least)] : List (Str × V)).length < 1000
      simp
    rw [upd_upd, upd_upd, upd_upd, upd_upd, put5]
    have b5 : SameBut x H (upd H x (.ins C_Terms dx (flds5 n))) := SameBut.refl.upd
    refine ⟨fun σ H' => σ = [some (.ref x), some (.int n.same), some (.int n.out), some (.int n.into), some (.int n.least), some (.int n.part), some nv] ∧ ∃ l, H' x = some (.ins C_Terms dx (putF "near" (.ref l) (flds5 n))) ∧ SameBut x H H' ∧ H' l = some (.lst xs) ∧ Trips H' xs fs ∧ H l = none, ?_, ?_⟩
    · refine ⟨_, rfl, _, rfl, ?_⟩
      rcases hnv with ⟨rfl, rfl, rfl⟩ | ⟨a, rfl, ha, htr⟩
      · refine iteT ?_
        refine ⟨le_line (by simp), fun l hl1 => ?_⟩
        have n1 : x ≠ l := ne_of_none upd_same hl1
        refine ⟨_, rfl, x, C_Terms, dx, _, rfl, by rw [upd_ne n1, upd_same], Tc.cl, Tc.near, by simp [flds5], rfl, l, upd_same, ?_, ?_, .nil, ?_⟩
        · exact (b5.laid (b5.free upd_same hl1)).upd
        · rw [upd_ne (Ne.symm n1), upd_same]
        · exact b5.free upd_same hl1
      · refine ite2 (fun hh => absurd hh (by simp)) (fun _ => ?_)
        have n0 : a ≠ x := ne_of ha hx (by intro z; cases z)
        refine ⟨_, rfl, a, xs, rfl, .inl (.of (by rw [upd_ne n0]; exact ha)), fun l hl1 => ?_⟩
        have n1 : x ≠ l := ne_of_none upd_same hl1
        have b6 : SameBut x H (upd (upd H x (.ins C_Terms dx (flds5 n))) l (.lst xs)) := b5.laid (b5.free upd_same hl1)
        refine ⟨_, rfl, x, C_Terms, dx, _, rfl, by rw [upd_ne n1, upd_same], Tc.cl, Tc.near, by simp [flds5], rfl, l, upd_same, b6.upd, ?_, ?_, ?_⟩
        · rw [upd_ne (Ne.symm n1), upd_same]
        · exact htr.but b6.upd hx
        · exact b5.free upd_same hl1
    · rintro σ H' ⟨rfl, l, hx', sb, hl', htr, hln⟩
      refine ⟨_, rfl, x, C_Terms, dx, _, _, rfl, hx', Tc.cl, Tc.near, near5 n l, l, xs, fs, rfl, hl', htr, hsh, ?_⟩
      refine ite2 (fun h6 => ?_) (fun h6 => ?_)
      · rw [if_pos rfl, if_pos h6] at q
        intro H2 d s2 hd hD
        have b2 := sb.same s2
        have hdn := sb.free hx' hd
        refine ⟨_, rfl, x, C_Terms, dx, _, rfl, s2 _ _ hx', Tc.cl, Tc.prices, ?_, ?_⟩
        · have := length_putF "near" (.ref l) (flds5 n)
          have e5 : (flds5 n).length = 5 := rfl
          exact hl _ (by omega)
        · have nl : l ≠ x := ne_of hl' hx' (by intro z; cases z)
          have nd : d ≠ x := ne_of hD (s2 _ _ hx') (by intro z; cases z)
          have ndx : dx ≠ x := ne_of hdx hx (by intro z; cases z)
          refine q _ l d b2.upd ⟨?_, ?_, ?_, ?_, ?_⟩ hln hdn
          · rw [upd_same, put7]
          · rw [upd_ne ndx]; exact b2 _ _ ndx hdx
          · rw [upd_ne nl]; exact s2 _ _ hl'
          · exact htr.but (SameBut.upd (fun b u n e => s2 b u e)) hx'
          · rw [upd_ne nd]; exact hD
      · rw [if_pos rfl, if_neg h6] at q
        exact fun H2 s2 => q H2 (sb.same s2)
theorem sc_Terms_pair_worth : FnScope ["self", "x", "y", "price"] ["self", "x", "y"] (defScope s_Terms_pair_worth) := ⟨rfl, rfl, rfl, by decide +kernel, rfl, by decide +kernel, by decide +kernel⟩
theorem ok_Terms_pair_worth {f : Addr} {fd : FuncData} (F : FunD K "pair_worth" "Terms.pair_worth" s_Terms_pair_worth f fd) (T : TB mg) (Tc : TermsC K C_Terms) : FnOk P w K mg base (CXF P w) true 1 f fd ["self", "x", "y"] (sp_pair C_Terms) := by
  refine F.okX sc_Terms_pair_worth (fun vs H Q E h => ?_) (fun cdv A outer s H vs Q E hr h hX => ?_)
  · obtain ⟨t, x, y, n, fs, dx, l, d, xs, rfl, _⟩ := h
    rfl
  · obtain ⟨t, x, y, n, fs, dx, l, d, xs, rfl, T1, q⟩ := h
    have hu := hr.units
    have hu : (A.deeper (PyProof.Rows.envOfC "Terms.pair_worth" (defScope s_Terms_pair_worth) s.heap.objs.size f cdv)).units + 1 < cLine := by omega
    refine ⟨_, (@pss_cons _ _ _ _ _ (@ps_if _ _ _ _ _ _ _ _ (@pt_cmpR _ _ _ _ _ _ _ _ op_eq (pv 1) (pv 2) (nomark _)) (@pss_one _ _ _ (@ps_ret _ _ _ _ (@pe_fldK _ K _ _ _ _ (pv 0) (by rfl) (by rfl)))) pss_nil) (@pss_cons _ _ _ _ _ (@ps_set _ _ (3) _ _ _ _ sc_Terms_pair_worth.nd (by exact rfl) (Or.inl rfl) (@pe_dget1 _ _ _ _ _ _ _ hu (@pe_fldK _ K _ _ _ _ (pv 0) (by rfl) (by rfl)) (@pe_tup _ _ _ _ _ (@pa_c _ _ _ _ _ (pv 1) (@pa_c _ _ _ _ _ (pv 2) pa_nil (by rfl)) (by rfl))) ⟨rfl, rfl, rfl, rfl⟩) (by rfl) (by first | exact .inl rfl | exact .inr rfl | assumption)) (@pss_cons _ _ _ _ _ (@ps_if _ _ _ _ _ _ _ _ (@pt_cmp _ _ _ _ _ _ (@pc_isN _ _ _ _ _ (pv 3)) (by first | exact nobehind _ (by decide) (by decide) | rfl)) (@pss_one _ _ _ (@ps_ret _ _ _ _ pe_non)) pss_nil) (@pss_one _ _ _ (@ps_ret _ _ _ _ (@pe_op _ _ _ _ _ _ _ _ op_sub (@pe_fldK _ K _ _ _ _ (pv 0) (by rfl) (by rfl)) (pv 3))))))), ?_⟩
    refine ⟨_, rfl, _, rfl, rfl, _, rfl, ?_⟩
    refine ite2 (fun h => ?_) (fun h => ?_)
    · have h : x = y := by simpa using h
      have q := q H (.refl H)
      rw [show pairW n.same fs x y = some n.same by simp [pairW, h]] at q
      exact ⟨_, rfl, t, C_Terms, dx, _, _, rfl, T1.ob, Tc.cl, Tc.same, l_same n l d, q⟩
    have h : ¬ x = y := by simpa using h
    refine ⟨_, rfl, t, C_Terms, dx, _, _, rfl, T1.ob, Tc.cl, Tc.prices, l_prices n l d, d, rfl, .inr ⟨_, .inl T1.di⟩, _, rfl, _, rfl, le_line (by simp), fun p hp => ?_⟩
    have nd : d ≠ p := ne_of_none T1.di hp
    have q := q _ (Same.upd (o := .tup [.str x, .str y]) hp)
    refine ⟨_, .t (k := [.inr x, .inr y]) (by rw [upd_ne nd]; exact T1.di) upd_same, ?_⟩
    rw [val_price]
    have T2 : TermsAt (upd H p (.tup [.str x, .str y])) C_Terms t n fs dx l d xs := ⟨Same.upd hp _ _ T1.ob, Same.upd hp _ _ T1.own, Same.upd hp _ _ T1.li, T1.tr.same (Same.upd hp), Same.upd hp _ _ T1.di⟩
    cases e : priceOf fs x y with
    | none =>
      rw [show pairW n.same fs x y = none by simp [pairW, h, e]] at q
      refine ⟨_, rfl, _, rfl, ?_⟩
      exact iteT q
    | some v =>
      rw [show pairW n.same fs x y = some (n.same - v) by simp [pairW, h, e]] at q
      refine ⟨_, rfl, _, rfl, ?_⟩
      refine ite2 (fun hh => absurd hh (by simp)) (fun _ => ?_)
      exact ⟨_, rfl, t, C_Terms, dx, _, _, rfl, T2.ob, Tc.cl, Tc.same, l_same n l d, _, rfl, _, _, rfl, rfl, q⟩
theorem sc_greatest : FnScope ["numbers"] ["numbers"] (defScope s_greatest) := ⟨rfl, rfl, rfl, by decide +kernel, rfl, by decide +kernel, by decide +kernel⟩
theorem ok_greatest {f : Addr} {fd : FuncData} (F : Fun K "greatest" "greatest" s_greatest f fd) (T : TB mg) : FnOk P w K mg base (CXF P w) true 1 f fd ["numbers"] sp_greatest := by
  refine F.okX sc_greatest (fun vs H Q E h => ?_) (fun cdv A outer s H vs Q E hr h hX => ?_)
  · obtain ⟨a, os, rfl, _⟩ := h
    rfl
  · obtain ⟨a, os, rfl, ha, hl, q⟩ := h
    refine ⟨_, (@pss_one _ _ _ (@ps_ret _ _ _ _ (@pe_maxD _ K _ _ _ _ _ _ _ (by exact rfl) (by exact rfl) T.n_max (@pe_comp _ _ _ _ _ _ _ _ _ _ _ _ _ _ (by exact rfl) (show CompScope ["numbers"] (defScope s_greatest) _ ["number"] [] [] from ⟨rfl, by decide +kernel, by decide +kernel, by decide +kernel, rfl, rfl, by decide +kernel, by decide +kernel, by decide +kernel⟩) (@pi_listK _ K _ _ _ (pv 0) (by rfl)) (fun _ _ _ _ _ => (@pg_name _ _ (0) _ (show (["number"] : List Str).Nodup by decide +kernel) (by exact rfl) (Or.inl rfl) (by first | exact .inl rfl | exact .inr rfl | assumption))) (fun _ _ _ _ _ => (@pts_one _ _ _ (@pt_cmp _ _ _ _ _ _ (@pc_notN _ _ _ _ _ (pv 0)) (by first | exact nobehind _ (by decide) (by decide) | rfl)))) (fun _ _ _ _ _ => (pv 0)) (by intro _; rfl)) (by rfl) (by rfl)))), ?_⟩
    refine ⟨_, rfl, a, rfl, ⟨_, .of ha⟩, fun D hD => ?_⟩
    refine comp_list (xs := os.map optV) (fun i ys σ' H' => (∃ u, σ' = [u]) ∧ ys = ((os.take i).filterMap id).map V.int ∧ H' D = some (.lst ys) ∧ Same H H') ⟨⟨_, rfl⟩, rfl, upd_same, Same.upd hD⟩ ?_ ?_ ?_
    · rintro i ys σ' H' _ ⟨_, _, _, s1⟩
      exact .of (s1 _ _ ha)
    · rintro i x ys σ' H' hx ⟨⟨u, rfl⟩, rfl, hD1, s1⟩
      have hi : i < os.length := by have := (List.getElem?_eq_some_iff.mp hx).1; simpa using this
      have ho : os[i]? = some os[i] := by simp [hi]
      generalize os[i] = o at ho
      have ex : x = optV o := by
        rw [List.getElem?_map, ho] at hx
        exact (Option.some.inj hx).symm
      subst ex
      have hlt : (((os.take i).filterMap id).map V.int).length < sizeLine := lt_line (by
        have := List.length_filterMap_le id (os.take i)
        rw [List.length_take] at this
        rw [List.length_map]
        omega)
      have e1 : os.take (i + 1) = os.take i ++ [o] := by rw [List.take_succ, ho]; rfl
      refine ⟨_, rfl, _, rfl, ?_⟩
      cases o with
      | none =>
        refine ite2 (fun hh => absurd hh (by simp [optV])) (fun _ => ?_)
        exact ⟨⟨_, rfl⟩, by rw [e1]; simp, hD1, s1⟩
      | some v =>
        refine ite2 (fun _ => ?_) (fun hh => absurd (by simp [optV]) hh)
        exact ⟨_, rfl, hD1, hlt, ⟨_, rfl⟩, by rw [e1]; simp [optV], upd_same, s1.upd2 hD⟩
    · rintro ys σ' H' ⟨_, rfl, hD1, s1⟩
      rw [List.length_map, List.take_length] at hD1
      refine ⟨D, os.filterMap id, rfl, .of hD1, ?_⟩
      rw [optO_eq]
      exact q H' s1
theorem sc_less : FnScope ["number", "price"] ["number", "price"] (defScope s_less) := ⟨rfl, rfl, rfl, by decide +kernel, rfl, by decide +kernel, by decide +kernel⟩
theorem ok_less {f : Addr} {fd : FuncData} (F : Fun K "less" "less" s_less f fd) (T : TB mg) : FnOk P w K mg base (CXF P w) true 1 f fd ["number", "price"] sp_less := by
  refine F.okX sc_less (fun vs H Q E h => ?_) (fun cdv A outer s H vs Q E hr h hX => ?_)
  · obtain ⟨o, p, rfl, _⟩ := h
    rfl
  · obtain ⟨o, p, rfl, q⟩ := h
    refine ⟨_, (@pss_one _ _ _ (@ps_ret _ _ _ _ (@pe_ifExp _ _ _ _ _ _ _ _ (@pt_cmp _ _ _ _ _ _ (@pc_isN _ _ _ _ _ (pv 0)) (by first | exact nobehind _ (by decide) (by decide) | rfl)) pe_non (@pe_op _ _ _ _ _ _ _ _ op_sub (pv 0) (pv 1))))), ?_⟩
    refine ⟨_, rfl, _, rfl, ?_⟩
    cases o with
    | none =>
      refine iteT ?_
      exact q
    | some v =>
      refine ite2 (fun hh => absurd hh (by simp [optV])) (fun _ => ?_)
      exact ⟨_, rfl, _, rfl, _, _, rfl, rfl, q⟩
theorem sc_begun_or_gone_on : FnScope ["worth", "brought"] ["worth", "brought"] (defScope s_begun_or_gone_on) := ⟨rfl, rfl, rfl, by decide +kernel, rfl, by decide +kernel, by decide +kernel⟩
theorem ok_begun_or_gone_on {f : Addr} {fd : FuncData} (F : Fun K "begun_or_gone_on" "begun_or_gone_on" s_begun_or_gone_on f fd) (T : TB mg) : FnOk P w K mg base (CXF P w) true 1 f fd ["worth", "brought"] sp_bog := by
  refine F.okX sc_begun_or_gone_on (fun vs H Q E h => ?_) (fun cdv A outer s H vs Q E hr h hX => ?_)
  · obtain ⟨w, b, rfl, _⟩ := h
    rfl
  · obtain ⟨w, b, rfl, q⟩ := h
    refine ⟨_, (@pss_cons _ _ _ _ _ (@ps_if _ _ _ _ _ _ _ _ (@pt_cmp _ _ _ _ _ _ (@pc_isN _ _ _ _ _ (pv 0)) (by first | exact nobehind _ (by decide) (by decide) | rfl)) (@pss_one _ _ _ (@ps_ret _ _ _ _ pe_non)) pss_nil) (@pss_cons _ _ _ _ _ (@ps_if _ _ _ _ _ _ _ _ (@PW.pt _ _ _ (@pw_or _ _ _ _ _ _ _ (@pt_cmp _ _ _ _ _ _ (@pc_isN _ _ _ _ _ (pv 1)) (by first | exact nobehind _ (by decide) (by decide) | rfl)) (@pw_or1 _ _ _ _ (@pt_cmpR _ _ _ _ _ _ _ _ op_lt (pv 1) pe_int (nomark _))))) (@pss_one _ _ _ (@ps_ret _ _ _ _ (pv 0))) pss_nil) (@pss_one _ _ _ (@ps_ret _ _ _ _ (@pe_op _ _ _ _ _ _ _ _ op_add (pv 0) (pv 1)))))), ?_⟩
    refine ⟨_, rfl, _, rfl, ?_⟩
    cases w with
    | none =>
      refine iteT ?_
      exact q
    | some w =>
      refine ite2 (fun hh => absurd hh (by simp [optV])) (fun _ => ?_)
      refine ⟨_, rfl, _, rfl, ?_⟩
      cases b with
      | none =>
        refine iteT ?_
        refine iteT ?_
        exact ⟨_, rfl, q⟩
      | some b =>
        refine ite2 (fun hh => absurd hh (by simp [optV])) (fun _ => ?_)
        refine ⟨_, rfl, _, _, rfl, rfl, _, rfl, ?_⟩
        refine ite2 (fun hh => ?_) (fun hh => ?_)
        · have hh : b < 0 := by simpa using hh
          simp only [bog, hh, if_true] at q
          exact ⟨_, rfl, q⟩
        · have hh : ¬ b < 0 := by simpa using hh
          simp only [bog, hh, if_false] at q
          exact ⟨_, rfl, _, rfl, _, _, rfl, rfl, q⟩
theorem sc_Trails_brought_behind : FnScope ["self", "ended", "above", "row", "j", "worth"] ["self", "ended", "above"] (defScope s_Trails_brought_behind) := ⟨rfl, rfl, rfl, by decide +kernel, rfl, by decide +kernel, by decide +kernel⟩
theorem ok_Trails_brought_behind {f : Addr} {fd : FuncData} (F : FunD K "brought_behind" "Trails.brought_behind" s_Trails_brought_behind f fd) (T : TB mg) (D_greatest : IsDef P w K mg base true 1 "greatest" ["numbers"] sp_greatest) (D_less : IsDef P w K mg base true 1 "less" ["number", "price"] sp_less) (Rc : TrailsC K C_Trails) : FnOk P w K mg base (CXF P w) true 2 f fd ["self", "ended", "above"] (sp_behind C_Trails) := by
  refine F.okX sc_Trails_brought_behind (fun vs H Q E h => ?_) (fun cdv A outer s H vs Q E hr h hX => ?_)
  · obtain ⟨x, e, a, dx, te, tb, o, p, m, f, g, rfl, _⟩ := h
    rfl
  · obtain ⟨x, e, a, dx, te, tb, o, p, m, f1, g, rfl, hx, he, ha, hm, q⟩ := h
    refine ⟨_, (@pss_cons _ _ _ _ _ (@ps_set _ _ (3) _ _ _ _ sc_Trails_brought_behind.nd (by exact rfl) (Or.inl rfl) (@pe_lst _ _ _ _ (@pa_c _ _ _ _ _ pe_non pa_nil (by rfl))) (by rfl) (by first | exact .inl rfl | exact .inr rfl | assumption)) (@pss_cons _ _ _ _ _ (@ps_for _ _ _ _ _ _ _ _ hX.own (by exact rfl) (@pi_enumK _ K _ _ _ _ _ _ _ (by exact rfl) T.n_enumerate (@pa_c _ _ _ _ _ (pv 1) pa_nil (by rfl)) (by rfl) (by rfl)) (@pg_tupK _ K _ _ _ (2) _ (by exact rfl) (@pgs_cons _ _ _ _ _ (@pg_name _ _ (4) _ sc_Trails_brought_behind.nd (by exact rfl) (Or.inl rfl) (by first | exact .inl rfl | exact .inr rfl | assumption)) (@pgs_cons _ _ _ _ _ (@pg_name _ _ (5) _ sc_Trails_brought_behind.nd (by exact rfl) (Or.inl rfl) (by first | exact .inl rfl | exact .inr rfl | assumption)) pgs_nil (by rfl)) (by rfl)) (by rfl) (by rfl) (by rfl)) (@pss_one _ _ _ (@ps_expr _ _ _ _ (@pe_bmK _ K _ _ _ _ _ _ _ _ _ _ _ PySem.F.plainAttrs_list PySem.F.slot_list_append PySem.F.type_list_append mt_append (pv 3) (@pa_c _ _ _ _ _ (@pe_def _ _ _ _ _ _ _ _ _ _ _ _ D_greatest (hr.mono (by decide)) passF (@pa_c _ _ _ _ _ (@pe_lst _ _ _ _ (@pa_c _ _ _ _ _ (pv 5) (@pa_c _ _ _ _ _ (@pe_def _ _ _ _ _ _ _ _ _ _ _ _ D_less (hr.mono (by decide)) passF (@pa_c _ _ _ _ _ (@pe_ix _ _ _ _ _ _ _ (ix_listK K) (pv 2) (@pe_op _ _ _ _ _ _ _ _ op_add (pv 4) pe_int) (fun _ _ => rfl)) (@pa_c _ _ _ _ _ (@pe_fldK _ K _ _ _ _ (pv 0) (by rfl) (by rfl)) pa_nil (by rfl)) (by rfl)) (by rfl) (by decide) (by rfl) (by rfl)) (@pa_c _ _ _ _ _ (@pe_def _ _ _ _ _ _ _ _ _ _ _ _ D_less (hr.mono (by decide)) passF (@pa_c _ _ _ _ _ (@pe_ix _ _ _ _ _ _ _ (ix_listK K) (pv 3) (pv 4) (fun _ _ => rfl)) (@pa_c _ _ _ _ _ (@pe_fldK _ K _ _ _ _ (pv 0) (by rfl) (by rfl)) pa_nil (by rfl)) (by rfl)) (by rfl) (by decide) (by rfl) (by rfl)) pa_nil (by rfl)) (by rfl)) (by rfl))) pa_nil (by rfl)) (by rfl) (by decide) (by rfl) (by rfl)) pa_nil (by rfl)) (by rfl) (by rfl) (by rfl) (by rfl) (by rfl) (by rfl)) (by rfl))) (by intro _; rfl)) (@pss_one _ _ _ (@ps_ret _ _ _ _ (pv 3))))), ?_⟩
    refine ⟨le_line (by simp), fun r hr1 => ?_⟩
    refine ⟨_, rfl, e, rfl, ⟨_, .of (Same.upd hr1 _ _ he)⟩, ?_⟩
    have hl := rowV_len m f1
    refine for_enum (xs := rowV m f1) (fun i σ H' => (∃ u v, σ = [some (.ref x), some (.ref e), some (.ref a), some (.ref r), u, v]) ∧ Same H H' ∧ H' r = some (.lst (rowV (i + 1) (rowB f1 g o p)))) ?_ ?_ ?_ ?_
    · exact ⟨⟨_, _, rfl⟩, Same.upd hr1, by rw [upd_same]; simp [rowV, rowB, optV, List.range_succ]⟩
    · rintro i σ H' _ ⟨_, s1, _⟩
      exact .of (s1 _ _ he)
    · rintro i v T' σ H' hv ⟨⟨u, u2, rfl⟩, s1, hr2⟩ hT
      have hi : i < m := by have := (List.getElem?_eq_some_iff.mp hv).1; omega
      rw [rowV_at hi] at hv
      cases hv
      have s2 : Same H (upd H' T' (.tup [.int i, optV (f1 i)])) := s1.trans (Same.upd hT)
      have hr3 := Same.upd (o := .tup [.int i, optV (f1 i)]) hT _ _ hr2
      refine ⟨T', _, rfl, .of upd_same, rfl, _, _, rfl, _, _, rfl, rfl, ?_⟩
      generalize upd H' T' (.tup [.int i, optV (f1 i)]) = H2 at s2 hr3
      have at1 : atI (rowV (m + 1) g) ((i : Int) + 1) = some (optV (g (i + 1))) := by
        have : ((i : Int) + 1) = ((i + 1 : Nat) : Int) := by omega
        rw [this]
        exact atI_nat (rowV_at (by omega))
      have at2 : atI (rowV (i + 1) (rowB f1 g o p)) (i : Int) = some (optV (rowB f1 g o p i)) := atI_nat (rowV_at (by omega))
      refine ⟨_, rfl, .inl ⟨rfl, _, .of hr3⟩, _, rfl, _, rfl, _, rfl, _, _, rfl, rfl, a, _, _, _, rfl, rfl, .of (s2 _ _ ha), at1, _, rfl, x, C_Trails, dx, _, _, rfl, s2 _ _ hx, Rc.cl, Rc.out, t_out o p te tb, g (i + 1), o, rfl, _, rfl, _, rfl, r, _, _, _, rfl, rfl, .of hr3, at2, _, rfl, x, C_Trails, dx, _, _, rfl, s2 _ _ hx, Rc.cl, Rc.into, t_into o p te tb, rowB f1 g o p i, p, rfl, le_line (by simp), fun L hL => ⟨L, [f1 i, lessO (g (i + 1)) o, lessO (rowB f1 g o p i) p], rfl, upd_same, by simp, fun H3 s3 => ?_⟩⟩
      have s4 := (Same.upd (o := .lst [optV (f1 i), optV (lessO (g (i + 1)) o), optV (lessO (rowB f1 g o p i) p)]) hL).trans s3
      exact ⟨r, _, _, rfl, rfl, s4 _ _ hr3, lt_line (by rw [rowV_len]; omega), ⟨_, _, rfl⟩, (s2.trans s4).upd2 hr1, by rw [upd_same, rowV_succ (i + 1)]; rfl⟩
    · rintro σ H' ⟨⟨u, v, rfl⟩, s1, hr2⟩
      rw [hl] at hr2
      exact ⟨_, rfl, q H' r s1 hr1 hr2⟩
theorem sc_Trails___init__ : FnScope ["self", "worths", "terms", "width", "row", "above", "ended"] ["self", "worths", "terms"] (defScope s_Trails___init__) := ⟨rfl, rfl, rfl, by decide +kernel, rfl, by decide +kernel, by decide +kernel⟩
theorem ok_Trails___init__ {f : Addr} {fd : FuncData} (F : FunD K "__init__" "Trails.__init__" s_Trails___init__ f fd) (T : TB mg) (D_begun_or_gone_on : IsDef P w K mg base true 1 "begun_or_gone_on" ["worth", "brought"] sp_bog) (M_Trails_brought_behind : IsMeth P w K mg base true 2 C_Trails "brought_behind" ["self", "ended", "above"] (sp_behind C_Trails)) (Tc : TermsC K C_Terms) (Rc : TrailsC K C_Trails) : FnOk P w K mg base (CXF P w) true 4 f fd ["self", "worths", "terms"] (sp_tinit C_Trails C_Terms) := by
  refine F.okX sc_Trails___init__ (fun vs H Q E h => ?_) (fun cdv A outer s H vs Q E hr h hX => ?_)
  · obtain ⟨x, dx, w, t, c, as, f, n, m, rfl, _⟩ := h
    rfl
  · obtain ⟨x, dx, w, t, c, as, f1, n, m, rfl, hx, hdx, hw, TA, TF, hn, hm, q⟩ := h
    obtain ⟨nu, dt, l, d, vs, T1, e1, e2, e3, e4⟩ := TF
    have nxw : w ≠ x := ne_of hw hx (by intro z; cases z)
    have nxt : t ≠ x := fun z => by
      have h1 := T1.ob
      rw [z, hx] at h1
      have h2 := congrArg (fun o => match o with | some (HO.ins _ _ fs) => fs.length | _ => 0) h1
      simp [flds] at h2
    refine ⟨_, (@pss_cut _ _ _ _ _ (@ps_fldK _ K _ _ _ _ _ _ _ (pv 0) (@pe_fldK _ K _ _ _ _ (pv 2) (by rfl) (by rfl)) (by rfl) (by rfl)) (@pss_cut _ _ _ _ _ (@ps_fldK _ K _ _ _ _ _ _ _ (pv 0) (@pe_fldK _ K _ _ _ _ (pv 2) (by rfl) (by rfl)) (by rfl) (by rfl)) (@pss_cut _ _ _ _ _ (@ps_set _ _ (3) _ _ _ _ sc_Trails___init__.nd (by exact rfl) (Or.inl rfl) (@pe_ifExp _ _ _ _ _ _ _ _ (@pt_cmpR _ _ _ _ _ _ _ _ op_gt (@pe_callB _ _ _ _ _ _ _ _ _ (call_len_seqK K) (by exact rfl) T.n_len PyProof.Rows.Boot.«len» (@pa_c _ _ _ _ _ (pv 1) pa_nil (by rfl)) (by decide) (by decide) (by rfl) (by rfl)) pe_int (nomark _)) (@pe_callB _ _ _ _ _ _ _ _ _ (call_len_seqK K) (by exact rfl) T.n_len PyProof.Rows.Boot.«len» (@pa_c _ _ _ _ _ (@pe_ix _ _ _ _ _ _ _ (ix_listK K) (pv 1) pe_int (fun _ _ => rfl)) pa_nil (by rfl)) (by decide) (by decide) (by rfl) (by rfl)) pe_int) (by rfl) (by first | exact .inl rfl | exact .inr rfl | assumption)) (@pss_cut _ _ _ _ _ (@ps_fldK _ K _ _ _ _ _ _ _ (pv 0) (@pe_lst _ _ _ _ pa_nil) (by rfl) (by rfl)) (@pss_cut _ _ _ _ _ (@ps_fldK _ K _ _ _ _ _ _ _ (pv 0) (@pe_lst _ _ _ _ (@pa_c _ _ _ _ _ (@pe_op _ _ _ _ _ _ _ _ op_rep (@pe_lst _ _ _ _ (@pa_c _ _ _ _ _ pe_non pa_nil (by rfl))) (@pe_op _ _ _ _ _ _ _ _ op_add (pv 3) pe_int)) pa_nil (by rfl))) (by rfl) (by rfl)) (@pss_one _ _ _ (@ps_for _ _ _ _ _ _ _ _ hX.own (by exact rfl) (@pi_listK _ K _ _ _ (pv 1) (by rfl)) (@pg_name _ _ (4) _ sc_Trails___init__.nd (by exact rfl) (Or.inl rfl) (by first | exact .inl rfl | exact .inr rfl | assumption)) (@pss_cut _ _ _ _ _ (@ps_set _ _ (5) _ _ _ _ sc_Trails___init__.nd (by exact rfl) (Or.inr rfl) (@pe_ix _ _ _ _ _ _ _ (ix_listK K) (@pe_fldK _ K _ _ _ _ (pv 0) (by rfl) (by rfl)) (@pe_un _ _ _ _ _ _ un_neg pe_int) (fun _ _ => rfl)) (by rfl) (by first | exact .inl rfl | exact .inr rfl | assumption)) (@pss_cut _ _ _ _ _ (@ps_comp _ _ _ _ _ _ _ _ _ _ _ _ _ _ _ (6) _ _ (by exact rfl) sc_Trails___init__.nd (by exact rfl) (by exact rfl) (show CompScope ["self", "worths", "terms", "width", "row", "above", "ended"] (defScope s_Trails___init__) _ ["j", "worth"] [5] ["above"] from ⟨rfl, by decide +kernel, by decide +kernel, by decide +kernel, rfl, rfl, by decide +kernel, by decide +kernel, by decide +kernel⟩) (@pi_enumK _ K _ _ _ _ _ _ _ (by exact rfl) T.n_enumerate (@pa_c _ _ _ _ _ (pv 4) pa_nil (by rfl)) (by rfl) (by rfl)) (fun _ _ _ _ _ => (@pg_tupK _ K _ _ _ (2) _ (by exact rfl) (@pgs_cons _ _ _ _ _ (@pg_name _ _ (0) _ (show (["j", "worth", "above"] : List Str).Nodup by decide +kernel) (by exact rfl) (Or.inl rfl) (by first | exact .inl rfl | exact .inr rfl | assumption)) (@pgs_cons _ _ _ _ _ (@pg_name _ _ (1) _ (show (["j", "worth", "above"] : List Str).Nodup by decide +kernel) (by exact rfl) (Or.inl rfl) (by first | exact .inl rfl | exact .inr rfl | assumption)) pgs_nil (by rfl)) (by rfl)) (by rfl) (by rfl) (by rfl))) (fun _ _ _ _ _ => pts_nil) (fun _ _ _ _ _ => (@pe_def _ _ _ _ _ _ _ _ _ _ _ _ D_begun_or_gone_on (hr.mono (by decide)) passF (@pa_c _ _ _ _ _ (pv 1) (@pa_c _ _ _ _ _ (@pe_ix _ _ _ _ _ _ _ (ix_listK K) (pv 2) (pv 0) (fun _ _ => rfl)) pa_nil (by rfl)) (by rfl)) (by rfl) (by decide) (by rfl) (by rfl))) (by rfl) (by intro _; rfl)) (@pss_cut _ _ _ _ _ (@ps_expr _ _ _ _ (@pe_bmK _ K _ _ _ _ _ _ _ _ _ _ _ PySem.F.plainAttrs_list PySem.F.slot_list_append PySem.F.type_list_append mt_append (@pe_fldK _ K _ _ _ _ (pv 0) (by rfl) (by rfl)) (@pa_c _ _ _ _ _ (pv 6) pa_nil (by rfl)) (by rfl) (by rfl) (by rfl) (by rfl) (by rfl) (by rfl)) (by rfl)) (@pss_one _ _ _ (@ps_expr _ _ _ _ (@pe_bmK _ K _ _ _ _ _ _ _ _ _ _ _ PySem.F.plainAttrs_list PySem.F.slot_list_append PySem.F.type_list_append mt_append (@pe_fldK _ K _ _ _ _ (pv 0) (by rfl) (by rfl)) (@pa_c _ _ _ _ _ (@pe_methD _ _ _ _ _ _ _ _ _ _ _ _ _ _ _ _ (pv 0) M_Trails_brought_behind (hr.mono (by decide)) passF (@pa_c _ _ _ _ _ (pv 6) (@pa_c _ _ _ _ _ (pv 5) pa_nil (by rfl)) (by rfl)) (by rfl) (by rfl) (by rfl)) pa_nil (by rfl)) (by rfl) (by rfl) (by rfl) (by rfl) (by rfl) (by rfl)) (by rfl)))))) (by intro _; rfl)))))))), ?_⟩
    refine ⟨fun σ H1 => σ = [some (.ref x), some (.ref w), some (.ref t), none, none, none, none] ∧ H1 = upd H x (.ins C_Trails dx (putF "out" (.int c.out) [])), ?_, ?_⟩
    · refine ⟨_, rfl, t, C_Terms, dt, _, _, rfl, T1.ob, Tc.cl, Tc.out, l_out nu l d, _, rfl, x, C_Trails, dx, _, rfl, hx, Rc.cl, Rc.out, by decide, rfl, ?_⟩
      rw [e2]
    rintro σ H1 ⟨rfl, rfl⟩
    refine ⟨fun σ H1 => σ = [some (.ref x), some (.ref w), some (.ref t), none, none, none, none] ∧ H1 = upd H x (.ins C_Trails dx (putF "into" (.int c.into) (putF "out" (.int c.out) []))), ?_, ?_⟩
    · refine ⟨_, rfl, t, C_Terms, dt, _, _, rfl, by rw [upd_ne nxt]; exact T1.ob, Tc.cl, Tc.into, l_into nu l d, _, rfl, x, C_Trails, dx, _, rfl, upd_same, Rc.cl, Rc.into, ?_, rfl, ?_⟩
      · have := length_putF "out" (.int c.out) []
        simp at this
        omega
      · rw [upd_upd, e3]
    rintro σ H1 ⟨rfl, rfl⟩
    refine ⟨fun σ H1 => ∃ wd : Int, σ = [some (.ref x), some (.ref w), some (.ref t), some (.int wd), none, none, none] ∧ H1 = upd H x (.ins C_Trails dx (putF "into" (.int c.into) (putF "out" (.int c.out) []))) ∧ (0 < n → wd = (m : Int)) ∧ 0 ≤ wd ∧ wd ≤ 1000, ?_, ?_⟩
    · have hw1 : upd H x (.ins C_Trails dx (putF "into" (.int c.into) (putF "out" (.int c.out) []))) w = some (.lst (as.map V.ref)) := by rw [upd_ne nxw]; exact hw
      have hal := TA.len
      refine ⟨_, rfl, w, _, rfl, .inl (.of hw1), _, _, rfl, rfl, _, rfl, ?_⟩
      refine ite2 (fun hh => ?_) (fun hh => ?_)
      · have hh : 0 < n := by
          have : (0 : Int) < ((as.map V.ref).length : Int) := by simpa using hh
          rw [List.length_map] at this
          omega
        obtain ⟨a, ha1, ha2, ha3⟩ := TA.at hh
        have nxa : a ≠ x := ne_of ha3 hx (by intro z; cases z)
        have ha4 : upd H x (.ins C_Trails dx (putF "into" (.int c.into) (putF "out" (.int c.out) []))) a = some (.lst (rowV m (f1 0))) := by rw [upd_ne nxa]; exact ha3
        refine ⟨_, rfl, w, _, 0, _, rfl, rfl, .of hw1, atI_nat (j := 0) ha2, a, _, rfl, .inl (.of ha4), _, rfl, rfl, fun _ => by rw [rowV_len], by rw [rowV_len]; omega, by rw [rowV_len]; omega⟩
      · have hh : n = 0 := by
          have : ¬ (0 : Int) < ((as.map V.ref).length : Int) := by simpa using hh
          rw [List.length_map] at this
          omega
        exact ⟨_, rfl, rfl, fun z => by omega, by omega, by omega⟩
    rintro σ H1 ⟨wd, rfl, rfl, hwd, hw0, hw9⟩
    refine ⟨fun σ H1 => ∃ e, σ = [some (.ref x), some (.ref w), some (.ref t), some (.int wd), none, none, none] ∧ H1 x = some (.ins C_Trails dx (putF "ending" (.ref e) (putF "into" (.int c.into) (putF "out" (.int c.out) [])))) ∧ SameBut x H H1 ∧ H e = none ∧ H1 e = some (.lst []), ?_, ?_⟩
    · refine ⟨le_line (by simp), fun e he => ?_⟩
      have sb1 : SameBut x H (upd H x (.ins C_Trails dx (putF "into" (.int c.into) (putF "out" (.int c.out) [])))) := SameBut.refl.upd
      have nxe : x ≠ e := ne_of_none upd_same he
      have he0 := sb1.free upd_same he
      refine ⟨_, rfl, x, C_Trails, dx, _, rfl, by rw [upd_ne nxe, upd_same], Rc.cl, Rc.ending, ?_, e, rfl, upd_same, (sb1.laid he0).upd, he0, by rw [upd_ne (Ne.symm nxe), upd_same]⟩
      have a1 := length_putF "into" (.int c.into) (putF "out" (.int c.out) [])
      have a2 := length_putF "out" (.int c.out) []
      simp at a2
      omega
    rintro σ H1 ⟨e, rfl, hx1, sb1, he0, he1⟩
    refine ⟨fun σ H2 => ∃ b ab, σ = [some (.ref x), some (.ref w), some (.ref t), some (.int wd), none, none, none] ∧ H2 x = some (.ins C_Trails dx (tflds c.out c.into e b)) ∧ SameBut x H H2 ∧ H2 e = some (.lst []) ∧ H b = none ∧ e ≠ b ∧ H2 b = some (.lst [.ref ab]) ∧ (0 < n → H2 ab = some (.lst (rowV (m + 1) (Bq f1 c.out c.into 0)))) ∧ ab ≠ e ∧ ab ≠ b, ?_, ?_⟩
    · refine ⟨le_line (by simp), fun l1 hl1 => ⟨_, rfl, _, _, rfl, rfl, l1, _, _, rfl, rfl, upd_same, by omega, by omega, le_line (by simp; omega), fun ab hab => ⟨le_line (by simp), fun b hb => ?_⟩⟩⟩
      have s1 : Same H1 (upd (upd (upd H1 l1 (.lst [.non])) ab (.lst (List.replicate (wd + 1).toNat [V.non]).flatten)) b (.lst [.ref ab])) := ((Same.upd hl1).trans (Same.upd hab)).trans (Same.upd hb)
      have hb1 : H1 b = none := ((Same.upd hl1).trans (Same.upd hab)).free hb
      have hx2 := s1 _ _ hx1
      have nxb : x ≠ b := ne_of_none hx1 hb1
      have nab : ab ≠ b := ne_of_none upd_same hb
      refine ⟨_, rfl, x, C_Trails, dx, _, rfl, hx2, Rc.cl, Rc.brought, ?_, b, ab, rfl, by rw [upd_same, t_put], (sb1.same s1).upd, ?_, sb1.free hx1 hb1, ne_of_none he1 hb1, ?_, fun h0 => ?_, ?_, nab⟩
      · have a0 := length_putF "ending" (.ref e) (putF "into" (.int c.into) (putF "out" (.int c.out) []))
        have a1 := length_putF "into" (.int c.into) (putF "out" (.int c.out) [])
        have a2 := length_putF "out" (.int c.out) []
        simp at a2
        omega
      · have : e ≠ x := ne_of he1 hx1 (by intro z; cases z)
        rw [upd_ne this]; exact s1 _ _ he1
      · rw [upd_ne (Ne.symm nxb), upd_same]
      · have nax : ab ≠ x := fun z => by rw [z] at hab; rw [(Same.upd hl1) _ _ hx1] at hab; cases hab
        rw [upd_ne nax, upd_ne nab, upd_same, hwd h0]
        congr 1
        have : ((m : Int) + 1).toNat = m + 1 := by omega
        rw [this]
        congr 1
        apply List.ext_getElem?
        intro k
        by_cases hk : k < m + 1
        · rw [rowV_at hk, Bq_zero]
          simp [optV, hk]
        · rw [List.getElem?_eq_none (by simp; omega), List.getElem?_eq_none (by rw [rowV_len]; omega)]
      · exact Ne.symm (ne_of_none ((Same.upd hl1) _ _ he1) hab)
    clear hx1 sb1 he1 H1
    rintro σ H1 ⟨b, ab, rfl, hx1, sb1, he1, hb0, neb, hb1, hab1, nae, nab⟩
    refine ⟨_, rfl, w, rfl, ⟨_, .of (sb1 _ _ nxw hw)⟩, ?_⟩
    refine for_list (xs := as.map V.ref) (fun i σ H' => (∃ u1 u2 u3, σ = [some (.ref x), some (.ref w), some (.ref t), some (.int wd), u1, u2, u3]) ∧ H' x = some (.ins C_Trails dx (tflds c.out c.into e b)) ∧ SameBut x H H' ∧ ∃ (es : List Addr) (bs : List V) (ab : Addr), H' e = some (.lst (es.map V.ref)) ∧ TabA H' es (Eq' f1 c.out c.into) i m ∧ (∀ a ∈ es, H a = none ∧ a ≠ e ∧ a ≠ b ∧ a ≠ x) ∧ H' b = some (.lst (bs ++ [.ref ab])) ∧ bs.length = i ∧ (0 < n → H' ab = some (.lst (rowV (m + 1) (Bq f1 c.out c.into i)))) ∧ ab ≠ e ∧ ab ≠ b) ?_ ?_ ?_ ?_
    · exact ⟨⟨_, _, _, rfl⟩, hx1, sb1, [], [], ab, he1, ⟨rfl, fun i a h => by simp at h⟩, (fun a h => by cases h), hb1, rfl, hab1, nae, nab⟩
    · rintro i σ H' _ ⟨_, _, sb, _⟩
      exact .of (sb _ _ nxw hw)
    · clear hx1 sb1 he1 hb1 hab1 nae nab ab H1
      rintro i v σ H' hv ⟨⟨u1, u2, u3, rfl⟩, hx1, sb1, es, bs, ab, he1, TE, hen, hb1, hbl, hab1, nae, nab⟩
      have hal := TA.len
      have hi : i < n := by have := (List.getElem?_eq_some_iff.mp hv).1; rw [List.length_map] at this; omega
      obtain ⟨ra, hr1, hr2, hr3⟩ := TA.at hi
      rw [hr2] at hv
      cases hv
      have nrx : ra ≠ x := ne_of hr3 hx (by intro z; cases z)
      have hra := sb1 _ _ nrx hr3
      have hab2 := hab1 (by omega)
      -- above
      refine ⟨fun σ H2 => σ = [some (.ref x), some (.ref w), some (.ref t), some (.int wd), some (.ref ra), some (.ref ab), u3] ∧ H2 = H', ?_, ?_⟩
      · exact ⟨_, rfl, x, C_Trails, dx, _, _, rfl, hx1, Rc.cl, Rc.brought, t_brought c.out c.into e b, _, rfl, b, _, _, _, rfl, rfl, .of hb1, atI_last _ _, rfl, rfl⟩
      rintro σ H' ⟨rfl, rfl⟩
      -- ended
      refine ⟨fun σ H2 => ∃ D, σ = [some (.ref x), some (.ref w), some (.ref t), some (.int wd), some (.ref ra), some (.ref ab), some (.ref D)] ∧ Same H' H2 ∧ H' D = none ∧ H2 D = some (.lst (rowV m (Eq' f1 c.out c.into i))), ?_, ?_⟩
      · refine ⟨_, rfl, ra, rfl, ⟨_, .of hra⟩, fun D hD => ?_⟩
        refine comp_enum (xs := rowV m (f1 i)) (fun j ys σ' H2 => (∃ w1 w2, σ' = [w1, w2, some (.ref ab)]) ∧ ys = rowV j (Eq' f1 c.out c.into i) ∧ H2 D = some (.lst ys) ∧ Same H' H2) ⟨⟨_, _, rfl⟩, rfl, upd_same, Same.upd hD⟩ ?_ ?_ ?_
        · rintro j ys σ' H2 _ ⟨_, _, _, s2⟩
          exact .of (s2 _ _ hra)
        · rintro j y T2 ys σ' H2 hy ⟨⟨w1, w2, rfl⟩, rfl, hD2, s2⟩ hT2
          have hj : j < m := by have := (List.getElem?_eq_some_iff.mp hy).1; rw [rowV_len] at this; exact this
          rw [rowV_at hj] at hy
          cases hy
          have s3 : Same H' (upd H2 T2 (.tup [.int j, optV (f1 i j)])) := s2.trans (Same.upd hT2)
          have hD3 := Same.upd (o := .tup [.int j, optV (f1 i j)]) hT2 _ _ hD2
          refine ⟨T2, _, rfl, .of upd_same, rfl, _, _, rfl, _, _, rfl, rfl, ?_⟩
          refine tYes_if ?_
          refine ⟨_, rfl, _, rfl, _, rfl, ab, _, _, _, rfl, rfl, .of (s3 _ _ hab2), atI_nat (rowV_at (by omega)), f1 i j, Bq f1 c.out c.into i j, rfl, hD3, lt_line (by rw [rowV_len]; omega), ⟨_, _, rfl⟩, by rw [rowV_succ]; rfl, upd_same, s3.upd2 hD⟩
        · rintro ys σ' H2 ⟨_, rfl, hD2, s2⟩
          rw [rowV_len] at hD2
          exact ⟨D, rfl, s2, hD, hD2⟩
      rintro σ H2 ⟨D, rfl, s2, hD0, hD2⟩
      have hx2 := s2 _ _ hx1
      have he2 := s2 _ _ he1
      have hb2 := s2 _ _ hb1
      have hab3 := s2 _ _ hab2
      have nDx : D ≠ x := Ne.symm (ne_of_none hx1 hD0)
      have nDe : D ≠ e := Ne.symm (ne_of_none he1 hD0)
      have nDb : D ≠ b := Ne.symm (ne_of_none hb1 hD0)
      have nex : e ≠ x := ne_of he1 hx1 (by intro z; cases z)
      have nbx : b ≠ x := ne_of hb1 hx1 (by intro z; cases z)
      have nax : ab ≠ x := ne_of hab2 hx1 (by intro z; cases z)
      have hel := TE.len
      have hD9 : H D = none := sb1.free hx1 hD0
      have sb2 := sb1.same s2
      refine ⟨fun σ H3 => σ = [some (.ref x), some (.ref w), some (.ref t), some (.int wd), some (.ref ra), some (.ref ab), some (.ref D)] ∧ H3 = upd H2 e (.lst (es.map V.ref ++ [.ref D])), ?_, ?_⟩
      · exact ⟨_, rfl, x, C_Trails, dx, _, _, rfl, hx2, Rc.cl, Rc.ending, t_ending c.out c.into e b, .inl ⟨rfl, _, .of he2⟩, _, rfl, e, _, _, rfl, rfl, he2, lt_line (by rw [List.length_map]; omega), rfl, rfl⟩
      rintro σ H3 ⟨rfl, rfl⟩
      have hx3 : upd H2 e (.lst (es.map V.ref ++ [.ref D])) x = some (.ins C_Trails dx (tflds c.out c.into e b)) := by rw [upd_ne (Ne.symm nex)]; exact hx2
      have hb3 : upd H2 e (.lst (es.map V.ref ++ [.ref D])) b = some (.lst (bs ++ [.ref ab])) := by rw [upd_ne (Ne.symm neb)]; exact hb2
      have hab4 : upd H2 e (.lst (es.map V.ref ++ [.ref D])) ab = some (.lst (rowV (m + 1) (Bq f1 c.out c.into i))) := by rw [upd_ne nae]; exact hab3
      have hD3 : upd H2 e (.lst (es.map V.ref ++ [.ref D])) D = some (.lst (rowV m (Eq' f1 c.out c.into i))) := by rw [upd_ne nDe]; exact hD2
      have he3 : upd H2 e (.lst (es.map V.ref ++ [.ref D])) e = some (.lst (es.map V.ref ++ [.ref D])) := upd_same
      have sb3 : SameBut x H (upd H2 e (.lst (es.map V.ref ++ [.ref D]))) := sb2.laid he0
      have TE3 : ∀ k a, es[k]? = some a → upd H2 e (.lst (es.map V.ref ++ [.ref D])) a = some (.lst (rowV m (Eq' f1 c.out c.into k))) := fun k a hk => by
        rw [upd_ne (hen a (List.mem_of_getElem? hk)).2.1]
        exact s2 _ _ (TE.row k a hk)
      generalize upd H2 e (.lst (es.map V.ref ++ [.ref D])) = H3 at hx3 hb3 hab4 hD3 he3 sb3 TE3
      refine ⟨_, rfl, x, C_Trails, dx, _, _, rfl, hx3, Rc.cl, Rc.brought, t_brought c.out c.into e b, .inl ⟨rfl, _, .of hb3⟩, _, rfl, x, dx, _, rfl, hx3, t_behind c.out c.into e b, _, rfl, _, rfl, x, D, ab, dx, e, b, c.out, c.into, m, _, _, rfl, hx3, hD3, hab4, hm, fun H4 r s4 hr0 hr4 => ?_⟩
      have nrb : r ≠ b := Ne.symm (ne_of_none hb3 hr0)
      have nre : r ≠ e := Ne.symm (ne_of_none he3 hr0)
      refine ⟨b, _, _, rfl, rfl, s4 _ _ hb3, lt_line (by rw [List.length_append]; simp; omega), ⟨_, _, _, rfl⟩, by rw [upd_ne (Ne.symm nbx)]; exact s4 _ _ hx3, (sb3.same s4).laid hb0, es ++ [D], bs ++ [.ref ab], r, by rw [upd_ne neb]; rw [s4 _ _ he3]; simp, ⟨by simp [hel], fun k a hk => ?_⟩, fun a ha => ?_, upd_same, by simp [hbl], fun _ => ?_, nre, nrb⟩
      · by_cases h : k < i
        · rw [List.getElem?_append_left (by omega)] at hk
          rw [upd_ne (hen a (List.mem_of_getElem? hk)).2.2.1]
          exact s4 _ _ (TE3 k a hk)
        · rw [List.getElem?_append_right (by omega)] at hk
          have hk0 : k - es.length = 0 := by
            have := (List.getElem?_eq_some_iff.mp hk).1
            simp at this
            omega
          rw [hk0] at hk
          have : D = a := by simpa using hk
          subst this
          rw [upd_ne nDb]
          have : k = i := by omega
          rw [this]; exact s4 _ _ hD3
      · rcases List.mem_append.mp ha with ha | ha
        · exact hen a ha
        · have : a = D := by simpa using ha
          rw [this]
          exact ⟨hD9, nDe, nDb, nDx⟩
      · rw [upd_ne nrb, hr4]
        congr 2
        unfold rowV
        apply List.map_congr_left
        intro j _
        rw [rowB_eq]
    · rintro σ H' ⟨⟨u1, u2, u3, rfl⟩, hx2, sb2, es, bs, ab2, he2, TE, hen, _⟩
      rw [List.length_map, TA.len] at TE
      exact q H' e b sb2 hx2 ⟨es, he2, he0, TE, fun a ha => (hen a ha).1⟩
theorem sc_shut_by : FnScope ["taken", "shut", "pair"] ["taken"] (defScope s_shut_by) := ⟨rfl, rfl, rfl, by decide +kernel, rfl, by decide +kernel, by decide +kernel⟩
theorem ok_shut_by {f : Addr} {fd : FuncData} (F : Fun K "shut_by" "shut_by" s_shut_by f fd) (T : TB mg) : FnOk P w K mg base (CXF P w) true 1 f fd ["taken"] sp_shut := by
  refine F.okX sc_shut_by (fun vs H Q E h => ?_) (fun cdv A outer s H vs Q E hr h hX => ?_)
  · obtain ⟨v, shut, rfl, _⟩ := h
    rfl
  · obtain ⟨v, shut, rfl, TV, hlen, q⟩ := h
    have hu := hr.units
    have hu : (A.deeper (PyProof.Rows.envOfC "shut_by" (defScope s_shut_by) s.heap.objs.size f cdv)).units + 1 < cLine := by omega
    refine ⟨_, (@pss_cons _ _ _ _ _ (@ps_set _ _ (1) _ _ _ _ sc_shut_by.nd (by exact rfl) (Or.inl rfl) pe_dnewT (by rfl) (by first | exact .inl rfl | exact .inr rfl | assumption)) (@pss_cut _ _ _ _ _ (@ps_if _ _ _ _ _ _ _ _ (@pt_cmp _ _ _ _ _ _ (@pc_notN _ _ _ _ _ (pv 0)) (by first | exact nobehind _ (by decide) (by decide) | rfl)) (@pss_one _ _ _ (@ps_for _ _ _ _ _ _ _ _ hX.own (by exact rfl) (@pi_listK _ K _ _ _ (pv 0) (by rfl)) (@pg_name _ _ (2) _ sc_shut_by.nd (by exact rfl) (Or.inl rfl) (by first | exact .inl rfl | exact .inr rfl | assumption)) (@pss_one _ _ _ (@ps_dput _ _ _ _ _ _ _ _ _ hu (pv 1) (pv 2) pe_bl (by exact rfl))) (by intro _; rfl))) pss_nil) (@pss_one _ _ _ (@ps_ret _ _ _ _ (pv 1))))), ?_⟩
    refine fun d hd => ?_
    refine ⟨fun σ H1 => (∃ u, σ = [some v, some (.ref d), u]) ∧ Same H H1 ∧ ∃ kvs, H1 d = some (.dT kvs) ∧ ShutD kvs shut, ?_, ?_⟩
    · refine ⟨_, rfl, _, rfl, ?_⟩
      rcases TV with ⟨rfl, rfl⟩ | ⟨l, us, rfl, hl, P1⟩
      · refine ite2 (fun hh => absurd hh (by simp)) (fun _ => ?_)
        exact ⟨⟨_, rfl⟩, Same.upd hd, [], upd_same, fun p => by simp [valV_nil]⟩
      · refine ite2 (fun _ => ?_) (fun hh => absurd (by simp) hh)
        have hul := P1.1
        refine ⟨_, rfl, l, rfl, ⟨_, .of (Same.upd hd _ _ hl)⟩, ?_⟩
        refine for_list (xs := us) (fun i σ H' => (∃ u, σ = [some (.ref l), some (.ref d), u]) ∧ Same H H' ∧ ∃ kvs, H' d = some (.dT kvs) ∧ kvs.length ≤ i ∧ ShutD kvs (shut.take i)) ?_ ?_ ?_ ?_
        · exact ⟨⟨_, rfl⟩, Same.upd hd, [], upd_same, Nat.le_refl _, fun p => by simp [valV_nil]⟩
        · rintro i σ H' _ ⟨_, s1, _⟩
          exact .of (s1 _ _ hl)
        · rintro i x σ H' hx ⟨⟨u, rfl⟩, s1, kvs, hD, hk, hS⟩
          have hi : i < shut.length := by rw [← hul]; exact (List.getElem?_eq_some_iff.mp hx).1
          obtain ⟨t, ht1, ht2⟩ := P1.atN hi
          rw [hx] at ht1
          cases ht1
          refine ⟨_, rfl, _, rfl, d, _, rfl, .t (k := keyP (pr shut i)) hD (s1 _ _ ht2) (lt_line (by omega)), ⟨_, rfl⟩, s1.upd2 hd, _, upd_same, Nat.le_trans (length_putK _ _ _) (by omega), fun p => ?_⟩
          have e1 : shut.take (i + 1) = shut.take i ++ [pr shut i] := by rw [List.take_succ, pr_at hi]; rfl
          rw [valV_put, e1]
          by_cases hp : p = pr shut i
          · rw [if_pos (by rw [hp])]
            simp [hp]
          · rw [if_neg (fun z => hp ?_), hS p]
            · simp [hp]
            · simp only [keyP, List.cons.injEq, Sum.inl.injEq, and_true] at z
              exact Prod.ext z.1 z.2
        · rintro σ H' ⟨⟨u, rfl⟩, s1, kvs, hD, _, hS⟩
          rw [hul, List.take_length] at hS
          exact ⟨⟨_, rfl⟩, s1, kvs, hD, hS⟩
    rintro σ H1 ⟨⟨u, rfl⟩, s1, kvs, hD, hS⟩
    exact ⟨_, rfl, q H1 d kvs s1 hD hS⟩
theorem sc_open_worths : FnScope ["first", "second", "terms", "taken", "shut", "worths", "i", "x", "row"] ["first", "second", "terms", "taken"] (defScope s_open_worths) := ⟨rfl, rfl, rfl, by decide +kernel, rfl, by decide +kernel, by decide +kernel⟩
theorem ok_open_worths {f : Addr} {fd : FuncData} (F : Fun K "open_worths" "open_worths" s_open_worths f fd) (T : TB mg) (D_shut_by : IsDef P w K mg base true 1 "shut_by" ["taken"] sp_shut) (M_Terms_pair_worth : IsMeth P w K mg base true 1 C_Terms "pair_worth" ["self", "x", "y"] (sp_pair C_Terms)) (Tc : TermsC K C_Terms) : FnOk P w K mg base (CXF P w) true 2 f fd ["first", "second", "terms", "taken"] (sp_open C_Terms) := by
  refine F.okX sc_open_worths (fun vs H Q E h => ?_) (fun cdv A outer s H vs Q E hr h hX => ?_)
  · obtain ⟨f, g, t, v, c, shut, rfl, _⟩ := h
    rfl
  · obtain ⟨f1, g, t, v, c, shut, rfl, hf, hg, TF, TV, hsl, hxl, hyl, q⟩ := h
    have hu := hr.units
    have hu : (A.deeper (PyProof.Rows.envOfC "open_worths" (defScope s_open_worths) s.heap.objs.size f cdv)).units + 1 < cLine := by omega
    have lx : (c.xs.map V.str).length = c.xs.length := List.length_map ..
    have ly : (c.ys.map V.str).length = c.ys.length := List.length_map ..
    refine ⟨_, (@pss_cut _ _ _ _ _ (@ps_set _ _ (4) _ _ _ _ sc_open_worths.nd (by exact rfl) (Or.inr rfl) (@pe_def _ _ _ _ _ _ _ _ _ _ _ _ D_shut_by (hr.mono (by decide)) passF (@pa_c _ _ _ _ _ (pv 3) pa_nil (by rfl)) (by rfl) (by decide) (by rfl) (by rfl)) (by rfl) (by first | exact .inl rfl | exact .inr rfl | assumption)) (@pss_cut _ _ _ _ _ (@ps_set _ _ (5) _ _ _ _ sc_open_worths.nd (by exact rfl) (Or.inl rfl) (@pe_lst _ _ _ _ pa_nil) (by rfl) (by first | exact .inl rfl | exact .inr rfl | assumption)) (@pss_cut _ _ _ _ _ (@ps_for _ _ _ _ _ _ _ _ hX.own (by exact rfl) (@pi_enumK _ K _ _ _ _ _ _ _ (by exact rfl) T.n_enumerate (@pa_c _ _ _ _ _ (pv 0) pa_nil (by rfl)) (by rfl) (by rfl)) (@pg_tupK _ K _ _ _ (2) _ (by exact rfl) (@pgs_cons _ _ _ _ _ (@pg_name _ _ (6) _ sc_open_worths.nd (by exact rfl) (Or.inr rfl) (by first | exact .inl rfl | exact .inr rfl | assumption)) (@pgs_cons _ _ _ _ _ (@pg_name _ _ (7) _ sc_open_worths.nd (by exact rfl) (Or.inr rfl) (by first | exact .inl rfl | exact .inr rfl | assumption)) pgs_nil (by rfl)) (by rfl)) (by rfl) (by rfl) (by rfl)) (@pss_cut _ _ _ _ _ (@ps_comp _ _ _ _ _ _ _ _ _ _ _ _ _ _ _ (8) _ _ (by exact rfl) sc_open_worths.nd (by exact rfl) (by exact rfl) (show CompScope ["first", "second", "terms", "taken", "shut", "worths", "i", "x", "row"] (defScope s_open_worths) _ ["j", "y"] [6, 4, 2, 7] ["i", "shut", "terms", "x"] from ⟨rfl, by decide +kernel, by decide +kernel, by decide +kernel, rfl, rfl, by decide +kernel, by decide +kernel, by decide +kernel⟩) (@pi_enumK _ K _ _ _ _ _ _ _ (by exact rfl) T.n_enumerate (@pa_c _ _ _ _ _ (pv 1) pa_nil (by rfl)) (by rfl) (by rfl)) (fun _ _ _ _ _ => (@pg_tupK _ K _ _ _ (2) _ (by exact rfl) (@pgs_cons _ _ _ _ _ (@pg_name _ _ (0) _ (show (["j", "y", "i", "shut", "terms", "x"] : List Str).Nodup by decide +kernel) (by exact rfl) (Or.inl rfl) (by first | exact .inl rfl | exact .inr rfl | assumption)) (@pgs_cons _ _ _ _ _ (@pg_name _ _ (1) _ (show (["j", "y", "i", "shut", "terms", "x"] : List Str).Nodup by decide +kernel) (by exact rfl) (Or.inl rfl) (by first | exact .inl rfl | exact .inr rfl | assumption)) pgs_nil (by rfl)) (by rfl)) (by rfl) (by rfl) (by rfl))) (fun _ _ _ _ _ => pts_nil) (fun _ _ _ _ _ => (@pe_ifExp _ _ _ _ _ _ _ _ (@pt_cmp _ _ _ _ _ _ (@pc_din _ _ _ _ _ hu (@pe_tup _ _ _ _ _ (@pa_c _ _ _ _ _ (pv 2) (@pa_c _ _ _ _ _ (pv 0) pa_nil (by rfl)) (by rfl))) (pv 3)) (by first | exact nobehind _ (by decide) (by decide) | rfl)) pe_non (@pe_methD _ _ _ _ _ _ _ _ _ _ _ _ _ _ _ _ (pv 4) M_Terms_pair_worth (hr.mono (by decide)) passF (@pa_c _ _ _ _ _ (pv 5) (@pa_c _ _ _ _ _ (pv 1) pa_nil (by rfl)) (by rfl)) (by rfl) (by rfl) (by rfl)))) (by rfl) (by intro _; rfl)) (@pss_one _ _ _ (@ps_expr _ _ _ _ (@pe_bmK _ K _ _ _ _ _ _ _ _ _ _ _ PySem.F.plainAttrs_list PySem.F.slot_list_append PySem.F.type_list_append mt_append (pv 5) (@pa_c _ _ _ _ _ (pv 8) pa_nil (by rfl)) (by rfl) (by rfl) (by rfl) (by rfl) (by rfl) (by rfl)) (by rfl)))) (by intro _; rfl)) (@pss_one _ _ _ (@ps_ret _ _ _ _ (pv 5)))))), ?_⟩
    refine ⟨fun σ H1 => ∃ d kvs, σ = [some (.ref f1), some (.ref g), some (.ref t), some v, some (.ref d), none, none, none, none] ∧ Same H H1 ∧ H1 d = some (.dT kvs) ∧ ShutD kvs shut, ?_, ?_⟩
    · exact ⟨_, rfl, v, shut, rfl, TV, hsl, fun H1 d kvs s1 hd hS => ⟨d, kvs, rfl, s1, hd, hS⟩⟩
    rintro σ H1 ⟨d, kvs, rfl, s1, hd1, hS⟩
    refine ⟨fun σ H2 => ∃ e, σ = [some (.ref f1), some (.ref g), some (.ref t), some v, some (.ref d), some (.ref e), none, none, none] ∧ Same H1 H2 ∧ H1 e = none ∧ H2 e = some (.lst []), ?_, ?_⟩
    · exact ⟨le_line (by simp), fun e he => ⟨e, rfl, Same.upd he, he, upd_same⟩⟩
    rintro σ H2 ⟨e, rfl, s2, he0, he2⟩
    refine ⟨fun σ H3 => (∃ u1 u2 u3, σ = [some (.ref f1), some (.ref g), some (.ref t), some v, some (.ref d), some (.ref e), u1, u2, u3]) ∧ Same H1 H3 ∧ ∃ as : List Addr, H3 e = some (.lst (as.map V.ref)) ∧ TabA H3 as (opf c shut) c.xs.length c.ys.length ∧ ∀ a ∈ as, H1 a = none, ?_, ?_⟩
    · refine ⟨_, rfl, f1, rfl, ⟨_, .of (s2 _ _ (s1 _ _ hf))⟩, ?_⟩
      refine for_enum (xs := c.xs.map V.str) (fun i σ H' => (∃ u1 u2 u3, σ = [some (.ref f1), some (.ref g), some (.ref t), some v, some (.ref d), some (.ref e), u1, u2, u3]) ∧ Same H1 H' ∧ ∃ as : List Addr, H' e = some (.lst (as.map V.ref)) ∧ TabA H' as (opf c shut) i c.ys.length ∧ ∀ a ∈ as, H1 a = none ∧ a ≠ e) ?_ ?_ ?_ ?_
      · exact ⟨⟨_, _, _, rfl⟩, s2, [], he2, ⟨rfl, fun i a h => by simp at h⟩, fun a h => by cases h⟩
      · rintro i σ H' _ ⟨_, s3, _⟩
        exact .of (s3 _ _ (s1 _ _ hf))
      · rintro i x T' σ H' hx ⟨⟨u1, u2, u3, rfl⟩, s3, as, he3, TA, hn⟩ hT
        obtain ⟨wx, hwx, rfl⟩ := word_at hx
        have hi : i < c.xs.length := (List.getElem?_eq_some_iff.mp hwx).1
        have s4 : Same H1 (upd H' T' (.tup [.int i, .str wx])) := s3.trans (Same.upd hT)
        have he4 := Same.upd (o := .tup [.int i, .str wx]) hT _ _ he3
        have TA4 := TA.same (Same.upd (o := .tup [.int i, .str wx]) hT)
        refine ⟨T', _, rfl, .of upd_same, rfl, _, _, rfl, _, _, rfl, rfl, ?_⟩
        generalize upd H' T' (.tup [.int i, .str wx]) = H4 at s4 he4 TA4
        clear TA he3 s3 hT
        refine ⟨fun σ H5 => ∃ r, σ = [some (.ref f1), some (.ref g), some (.ref t), some v, some (.ref d), some (.ref e), some (.int i), some (.str wx), some (.ref r)] ∧ Same H4 H5 ∧ H4 r = none ∧ H5 r = some (.lst (rowV c.ys.length (opf c shut i))), ?_, ?_⟩
        · have hg4 := s4 _ _ (s1 _ _ hg)
          refine ⟨_, rfl, g, rfl, ⟨_, .of hg4⟩, fun D hD => ?_⟩
          refine comp_enum (xs := c.ys.map V.str) (fun j ys σ' H5 => (∃ w1 w2, σ' = [w1, w2, some (.int i), some (.ref d), some (.ref t), some (.str wx)]) ∧ ys = rowV j (opf c shut i) ∧ H5 D = some (.lst ys) ∧ Same H4 H5) ⟨⟨_, _, rfl⟩, rfl, upd_same, Same.upd hD⟩ ?_ ?_ ?_
          · rintro j ys σ' H5 _ ⟨_, _, _, s5⟩
            exact .of (s5 _ _ hg4)
          · rintro j y T2 ys σ' H5 hy ⟨⟨w1, w2, rfl⟩, rfl, hD5, s5⟩ hT2
            obtain ⟨wy, hwy, rfl⟩ := word_at hy
            have hj : j < c.ys.length := (List.getElem?_eq_some_iff.mp hwy).1
            have s6 : Same H4 (upd H5 T2 (.tup [.int j, .str wy])) := s5.trans (Same.upd hT2)
            have hD6 := Same.upd (o := .tup [.int j, .str wy]) hT2 _ _ hD5
            refine ⟨T2, _, rfl, .of upd_same, rfl, _, _, rfl, _, _, rfl, rfl, ?_⟩
            generalize upd H5 T2 (.tup [.int j, .str wy]) = H6 at s6 hD6
            refine tYes_if ?_
            refine ⟨_, rfl, _, rfl, le_line (by simp), fun p hp => ?_⟩
            have s7 := s6.trans (Same.upd (o := .tup [.int (i : Int), .int (j : Int)]) hp)
            have sA := s4.trans s7
            have hD7 := Same.upd (o := .tup [.int (i : Int), .int (j : Int)]) hp _ _ hD6
            have len : (rowV j (opf c shut i)).length < sizeLine := lt_line (by rw [rowV_len]; omega)
            have sn : ∀ u, u = opf c shut i j → rowV j (opf c shut i) ++ [optV u] = rowV (j + 1) (opf c shut i) := fun u e => by rw [rowV_succ, e]
            have hpw : c.pw ((i : Int), (j : Int)) = pairW c.same c.fs wx wy := Case.pw_of (by rw [wd_nat]; exact hwx) (by rw [wd_nat]; exact hwy)
            refine ⟨_, rfl, d, _, rfl, .t (k := keyP ((i : Int), (j : Int))) (sA _ _ hd1) upd_same, _, rfl, ?_⟩
            rw [hS]
            refine ite2 (fun h1 => ?_) (fun h1 => ?_)
            · have h1 : ((i : Int), (j : Int)) ∈ shut := by simpa using h1
              refine ⟨hD7, len, ⟨_, _, rfl⟩, ?_, upd_same, s7.upd2 hD⟩
              exact sn none (by simp [opf, opn, h1])
            · have h1 : ((i : Int), (j : Int)) ∉ shut := by simpa using h1
              obtain ⟨n, dx, l, dd, vs, T1, e1, e2, e3, e4⟩ := (TF.keep s1).keep sA
              refine ⟨_, rfl, t, dx, _, rfl, T1.ob, l_pair_worth n l dd, _, rfl, _, rfl, t, wx, wy, n, c.fs, dx, l, dd, vs, rfl, T1, fun H8 s8 => ?_⟩
              refine ⟨s8 _ _ hD7, len, ⟨_, _, rfl⟩, ?_, upd_same, (s7.trans s8).upd2 hD⟩
              exact sn _ (by simp [opf, opn, h1, hpw, e1])
          · rintro ys σ' H5 ⟨_, rfl, hD5, s5⟩
            rw [ly] at hD5
            exact ⟨D, rfl, s5, hD, hD5⟩
        rintro σ H5 ⟨r, rfl, s5, hr0, hr5⟩
        have hre : r ≠ e := Ne.symm (ne_of_none he4 hr0)
        have hlen := TA4.len
        refine ⟨_, rfl, .inl ⟨rfl, _, .of (s5 _ _ he4)⟩, _, rfl, e, _, _, rfl, rfl, s5 _ _ he4, lt_line (by rw [List.length_map]; omega), ⟨_, _, _, rfl⟩, (s4.trans s5).upd2 he0, as ++ [r], by rw [upd_same]; simp, ⟨by simp [hlen], fun k a hk => ?_⟩, fun a ha => ?_⟩
        · by_cases h : k < i
          · rw [List.getElem?_append_left (by omega)] at hk
            rw [upd_ne (hn a (List.mem_of_getElem? hk)).2]
            exact s5 _ _ (TA4.row k a hk)
          · rw [List.getElem?_append_right (by omega)] at hk
            have hk0 : k - as.length = 0 := by
              have := (List.getElem?_eq_some_iff.mp hk).1
              simp at this
              omega
            rw [hk0] at hk
            have : r = a := by simpa using hk
            subst this
            rw [upd_ne hre]
            have : k = i := by omega
            rw [this]; exact hr5
        · rcases List.mem_append.mp ha with ha | ha
          · exact hn a ha
          · have : a = r := by simpa using ha
            rw [this]
            exact ⟨s4.free hr0, hre⟩
      · rintro σ H' ⟨⟨u1, u2, u3, rfl⟩, s3, as, he3, TA, hn⟩
        rw [lx] at TA
        exact ⟨⟨_, _, _, rfl⟩, s3, as, he3, TA, fun a ha => (hn a ha).1⟩
    rintro σ H3 ⟨⟨u1, u2, u3, rfl⟩, s3, as, he3, TA, hn⟩
    exact ⟨_, rfl, q H3 e (s1.trans s3) ⟨as, he3, s1.free he0, TA, fun a ha => s1.free (hn a ha)⟩⟩
theorem sc_read_backwards : FnScope ["table"] ["table"] (defScope s_read_backwards) := ⟨rfl, rfl, rfl, by decide +kernel, rfl, by decide +kernel, by decide +kernel⟩
theorem ok_read_backwards {f : Addr} {fd : FuncData} (F : Fun K "read_backwards" "read_backwards" s_read_backwards f fd) (T : TB mg) (n_reversed : mg "reversed" = none) : FnOk P w K mg base (CXF P w) true 1 f fd ["table"] sp_backwards := by
  refine F.okX sc_read_backwards (fun vs H Q E h => ?_) (fun cdv A outer s H vs Q E hr h hX => ?_)
  · obtain ⟨e, as, f, n, m, rfl, _⟩ := h
    rfl
  · obtain ⟨e, as, f, n, m, rfl, he, TA, hn, hm, q⟩ := h
    have hal := TA.len
    refine ⟨_, (@pss_one _ _ _ (@ps_ret _ _ _ _ (@pe_comp _ _ _ _ _ _ _ _ _ _ _ _ _ _ (by exact rfl) (show CompScope ["table"] (defScope s_read_backwards) _ ["row"] [] [] from ⟨rfl, by decide +kernel, by decide +kernel, by decide +kernel, rfl, rfl, by decide +kernel, by decide +kernel, by decide +kernel⟩) (@pi_revK _ _ K _ _ _ _ (by exact rfl) n_reversed (@pa_c _ _ _ _ _ (pv 0) pa_nil (by rfl)) (by rfl) (by rfl)) (fun _ _ _ _ _ => (@pg_name _ _ (0) _ (show (["row"] : List Str).Nodup by decide +kernel) (by exact rfl) (Or.inl rfl) (by first | exact .inl rfl | exact .inr rfl | assumption))) (fun _ _ _ _ _ => pts_nil) (fun _ _ _ _ _ => (@pe_lrev _ K _ _ _ _ _ _ (by exact rfl) (by exact rfl) T.n_list (by exact rfl) n_reversed (pv 0) (by rfl) (by rfl) (by rfl))) (by intro _; rfl)))), ?_⟩
    refine ⟨_, rfl, e, _, rfl, .of he, fun D hD => ?_⟩
    refine comp_rev (xs := as.map V.ref) (fun i ys σ H' => (∃ u, σ = [u]) ∧ ∃ rs : List Addr, ys = rs.map V.ref ∧ Same H H' ∧ H' D = some (.lst ys) ∧ TabA H' rs (fr f n m) i m ∧ (∀ a ∈ rs, H a = none ∧ a ≠ D)) ⟨⟨_, rfl⟩, [], rfl, Same.upd hD, upd_same, ⟨rfl, fun i a h => by simp at h⟩, fun a h => by cases h⟩ ?_ ?_ ?_
    · rintro i ys σ H' _ ⟨_, rs, _, s1, _⟩
      exact .of (s1 _ _ he)
    · rintro i x ys σ H' hx ⟨⟨u, rfl⟩, rs, rfl, s1, hD1, T1, fr1⟩
      have hi : i < n := by have := (List.getElem?_eq_some_iff.mp hx).1; simp at this; omega
      obtain ⟨ra, h1, h2, h3⟩ := TA.at (i := n - 1 - i) (by omega)
      have hx' : x = .ref ra := by
        rw [List.getElem?_reverse (by rw [List.length_map]; omega), List.length_map, hal, h2] at hx
        exact (Option.some.inj hx).symm
      subst hx'
      have hrl := T1.len
      refine gN_yes ?_
      refine ⟨_, rfl, ra, _, rfl, .of (s1 _ _ h3), fun l hl => ?_⟩
      have nlD : l ≠ D := fun z => by subst z; rw [hD1] at hl; cases hl
      refine ⟨Same.upd hl _ _ hD1, lt_line (by rw [List.length_map]; omega), ⟨_, rfl⟩, rs ++ [l], by simp, (s1.trans (Same.upd hl)).upd2 hD, upd_same, ⟨by simp [hrl], fun k a hk => ?_⟩, fun a ha => ?_⟩
      · by_cases hki : k < i
        · rw [List.getElem?_append_left (by omega)] at hk
          rw [upd_ne (fr1 a (List.mem_of_getElem? hk)).2]
          exact Same.upd hl _ _ (T1.row k a hk)
        · rw [List.getElem?_append_right (by omega)] at hk
          have hk0 : k - rs.length = 0 := by
            have := (List.getElem?_eq_some_iff.mp hk).1
            simp at this
            omega
          rw [hk0] at hk
          have e1 : l = a := by simpa using hk
          have e2 : k = i := by omega
          subst e1 e2
          rw [upd_ne nlD, upd_same, rowV_rev hi]
      · rcases List.mem_append.mp ha with ha | ha
        · exact fr1 a ha
        · have : a = l := by simpa using ha
          rw [this]; exact ⟨s1.free hl, nlD⟩
    · rintro ys σ H' ⟨_, rs, rfl, s1, hD1, T1, fr1⟩
      rw [List.length_map, hal] at T1
      exact q H' D s1 ⟨rs, hD1, hD, T1, fun a ha => (fr1 a ha).1⟩
theorem sc_starting_table : FnScope ["worths", "terms"] ["worths", "terms"] (defScope s_starting_table) := ⟨rfl, rfl, rfl, by decide +kernel, rfl, by decide +kernel, by decide +kernel⟩
theorem ok_starting_table {f : Addr} {fd : FuncData} (F : Fun K "starting_table" "starting_table" s_starting_table f fd) (T : TB mg) (D_read_backwards : IsDef P w K mg base true 1 "read_backwards" ["table"] sp_backwards) (N2_Trails : IsNew P w K mg base true 4 "Trails" C_Trails ["self", "worths", "terms"] [] (sp_tinit C_Trails C_Terms)) (Rc : TrailsC K C_Trails) : FnOk P w K mg base (CXF P w) true 6 f fd ["worths", "terms"] (sp_starting C_Terms) := by
  refine F.okX sc_starting_table (fun vs H Q E h => ?_) (fun cdv A outer s H vs Q E hr h hX => ?_)
  · obtain ⟨w, t, c, as, f, n, m, rfl, _⟩ := h
    rfl
  · obtain ⟨w, t, c, as, f1, n, m, rfl, hw, TA, TF, hn, hm, q⟩ := h
    refine ⟨_, (@pss_one _ _ _ (@ps_ret _ _ _ _ (@pe_def _ _ _ _ _ _ _ _ _ _ _ _ D_read_backwards (hr.mono (by decide)) passF (@pa_c _ _ _ _ _ (@pe_fldK _ K _ _ _ _ (@pe_newD _ _ _ _ _ _ _ _ _ _ _ _ _ _ N2_Trails (hr.mono (by decide)) hX.pass (@pa_c _ _ _ _ _ (@pe_def _ _ _ _ _ _ _ _ _ _ _ _ D_read_backwards (hr.mono (by decide)) passF (@pa_c _ _ _ _ _ (pv 0) pa_nil (by rfl)) (by rfl) (by decide) (by rfl) (by rfl)) (@pa_c _ _ _ _ _ (pv 1) pa_nil (by rfl)) (by rfl)) (by rfl) (by decide) (by rfl) (by rfl)) (by rfl) (by rfl)) pa_nil (by rfl)) (by rfl) (by decide) (by rfl) (by rfl)))), ?_⟩
    refine ⟨_, rfl, w, as, f1, n, m, rfl, hw, TA, hn, hm, fun H1 r s1 Tb1 => ?_⟩
    obtain ⟨rs, hr, hr0, TR, _⟩ := Tb1
    refine ⟨_, rfl, fun x dx hx hdx hne => ?_⟩
    have s5 : Same H1 (upd (upd H1 dx (.own x)) x (.ins C_Trails dx [])) := (Same.upd hdx).upd2 hx
    refine ⟨x, dx, r, t, c, rs, fr f1 n m, n, m, rfl, upd_same, by rw [upd_ne hne]; exact upd_same, s5 _ _ hr, TR.same s5, (TF.keep s1).keep s5, hn, hm, fun H6 e b sb hx6 Tb6 => ?_⟩
    obtain ⟨es, he, he0, TE, _⟩ := Tb6
    have sN : Same H H6 := s1.trans (SameBut.of_new hx hdx sb)
    refine ⟨rfl, x, C_Trails, dx, _, _, rfl, hx6, Rc.cl, Rc.ending, t_ending c.out c.into e b, e, es, _, n, m, rfl, he, TE, hn, hm, fun H7 r7 s7 Tb7 => ?_⟩
    obtain ⟨zs, h1, h2, h3, h4⟩ := Tb7
    exact q H7 r7 (sN.trans s7) ⟨zs, h1, sN.free h2, h3, fun a ha => sN.free (h4 a ha)⟩
theorem sc_through_worth : FnScope ["worth", "ending", "starting"] ["worth", "ending", "starting"] (defScope s_through_worth) := ⟨rfl, rfl, rfl, by decide +kernel, rfl, by decide +kernel, by decide +kernel⟩
theorem ok_through_worth {f : Addr} {fd : FuncData} (F : Fun K "through_worth" "through_worth" s_through_worth f fd) (T : TB mg) : FnOk P w K mg base (CXF P w) true 1 f fd ["worth", "ending", "starting"] sp_thru1 := by
  refine F.okX sc_through_worth (fun vs H Q E h => ?_) (fun cdv A outer s H vs Q E hr h hX => ?_)
  · obtain ⟨w, e, s, rfl, _⟩ := h
    rfl
  · obtain ⟨w, e, s, rfl, ok, q⟩ := h
    refine ⟨_, (@pss_one _ _ _ (@ps_ret _ _ _ _ (@pe_ifExp _ _ _ _ _ _ _ _ (@pt_cmp _ _ _ _ _ _ (@pc_isN _ _ _ _ _ (pv 0)) (by first | exact nobehind _ (by decide) (by decide) | rfl)) pe_non (@pe_op _ _ _ _ _ _ _ _ op_sub (@pe_op _ _ _ _ _ _ _ _ op_add (pv 1) (pv 2)) (pv 0))))), ?_⟩
    refine ⟨_, rfl, _, rfl, ?_⟩
    cases w with
    | none =>
      refine iteT ?_
      exact q
    | some w =>
      obtain ⟨h1, h2⟩ := ok rfl
      obtain ⟨e, rfl⟩ := Option.isSome_iff_exists.mp h1
      obtain ⟨s, rfl⟩ := Option.isSome_iff_exists.mp h2
      refine ite2 (fun hh => absurd hh (by simp [optV])) (fun _ => ?_)
      exact ⟨_, rfl, _, rfl, _, _, rfl, rfl, _, rfl, _, _, rfl, rfl, q⟩
theorem sc_best_through : FnScope ["first", "second", "terms", "taken", "worths", "ending", "starting", "table", "i", "row"] ["first", "second", "terms", "taken"] (defScope s_best_through) := ⟨rfl, rfl, rfl, by decide +kernel, rfl, by decide +kernel, by decide +kernel⟩
theorem ok_best_through {f : Addr} {fd : FuncData} (F : FunD K "best_through" "best_through" s_best_through f fd) (T : TB mg) (D_open_worths : IsDef P w K mg base true 2 "open_worths" ["first", "second", "terms", "taken"] (sp_open C_Terms)) (N2_Trails : IsNew P w K mg base true 4 "Trails" C_Trails ["self", "worths", "terms"] [] (sp_tinit C_Trails C_Terms)) (Rc : TrailsC K C_Trails) (D_starting_table : IsDef P w K mg base true 6 "starting_table" ["worths", "terms"] (sp_starting C_Terms)) (D_through_worth : IsDef P w K mg base true 1 "through_worth" ["worth", "ending", "starting"] sp_thru1) : FnOk P w K mg base (CXF P w) true 7 f fd ["first", "second", "terms", "taken"] (sp_best C_Terms thruF) := by
  refine F.okX sc_best_through (fun vs H Q E h => ?_) (fun cdv A outer s H vs Q E hr h hX => ?_)
  · obtain ⟨f, g, t, v, c, shut, rfl, _⟩ := h
    rfl
  · obtain ⟨f1, g, t, v, c, shut, rfl, hf, hg, TF, TV, hsl, hxl, hyl, q⟩ := h
    refine ⟨_, (@pss_cut _ _ _ _ _ (@ps_set _ _ (4) _ _ _ _ sc_best_through.nd (by exact rfl) (Or.inl rfl) (@pe_def _ _ _ _ _ _ _ _ _ _ _ _ D_open_worths (hr.mono (by decide)) passF (@pa_c _ _ _ _ _ (pv 0) (@pa_c _ _ _ _ _ (pv 1) (@pa_c _ _ _ _ _ (pv 2) (@pa_c _ _ _ _ _ (pv 3) pa_nil (by rfl)) (by rfl)) (by rfl)) (by rfl)) (by rfl) (by decide) (by rfl) (by rfl)) (by rfl) (by first | exact .inl rfl | exact .inr rfl | assumption)) (@pss_cut _ _ _ _ _ (@ps_set _ _ (5) _ _ _ _ sc_best_through.nd (by exact rfl) (Or.inr rfl) (@pe_fldK _ K _ _ _ _ (@pe_newD _ _ _ _ _ _ _ _ _ _ _ _ _ _ N2_Trails (hr.mono (by decide)) hX.pass (@pa_c _ _ _ _ _ (pv 4) (@pa_c _ _ _ _ _ (pv 2) pa_nil (by rfl)) (by rfl)) (by rfl) (by decide) (by rfl) (by rfl)) (by rfl) (by rfl)) (by rfl) (by first | exact .inl rfl | exact .inr rfl | assumption)) (@pss_cut _ _ _ _ _ (@ps_set _ _ (6) _ _ _ _ sc_best_through.nd (by exact rfl) (Or.inr rfl) (@pe_def _ _ _ _ _ _ _ _ _ _ _ _ D_starting_table (hr.mono (by decide)) passF (@pa_c _ _ _ _ _ (pv 4) (@pa_c _ _ _ _ _ (pv 2) pa_nil (by rfl)) (by rfl)) (by rfl) (by decide) (by rfl) (by rfl)) (by rfl) (by first | exact .inl rfl | exact .inr rfl | assumption)) (@pss_cut _ _ _ _ _ (@ps_set _ _ (7) _ _ _ _ sc_best_through.nd (by exact rfl) (Or.inl rfl) (@pe_lst _ _ _ _ pa_nil) (by rfl) (by first | exact .inl rfl | exact .inr rfl | assumption)) (@pss_cut _ _ _ _ _ (@ps_for _ _ _ _ _ _ _ _ hX.own (by exact rfl) (@pi_enumK _ K _ _ _ _ _ _ _ (by exact rfl) T.n_enumerate (@pa_c _ _ _ _ _ (pv 4) pa_nil (by rfl)) (by rfl) (by rfl)) (@pg_tupK _ K _ _ _ (2) _ (by exact rfl) (@pgs_cons _ _ _ _ _ (@pg_name _ _ (8) _ sc_best_through.nd (by exact rfl) (Or.inr rfl) (by first | exact .inl rfl | exact .inr rfl | assumption)) (@pgs_cons _ _ _ _ _ (@pg_name _ _ (9) _ sc_best_through.nd (by exact rfl) (Or.inl rfl) (by first | exact .inl rfl | exact .inr rfl | assumption)) pgs_nil (by rfl)) (by rfl)) (by rfl) (by rfl) (by rfl)) (@pss_one _ _ _ (@ps_expr _ _ _ _ (@pe_bmK _ K _ _ _ _ _ _ _ _ _ _ _ PySem.F.plainAttrs_list PySem.F.slot_list_append PySem.F.type_list_append mt_append (pv 7) (@pa_c _ _ _ _ _ (@pe_comp _ _ _ _ _ _ _ _ _ _ _ _ _ _ (by exact rfl) (show CompScope ["first", "second", "terms", "taken", "worths", "ending", "starting", "table", "i", "row"] (defScope s_best_through) _ ["j", "worth"] [5, 8, 6] ["ending", "i", "starting"] from ⟨rfl, by decide +kernel, by decide +kernel, by decide +kernel, rfl, rfl, by decide +kernel, by decide +kernel, by decide +kernel⟩) (@pi_enumK _ K _ _ _ _ _ _ _ (by exact rfl) T.n_enumerate (@pa_c _ _ _ _ _ (pv 9) pa_nil (by rfl)) (by rfl) (by rfl)) (fun _ _ _ _ _ => (@pg_tupK _ K _ _ _ (2) _ (by exact rfl) (@pgs_cons _ _ _ _ _ (@pg_name _ _ (0) _ (show (["j", "worth", "ending", "i", "starting"] : List Str).Nodup by decide +kernel) (by exact rfl) (Or.inl rfl) (by first | exact .inl rfl | exact .inr rfl | assumption)) (@pgs_cons _ _ _ _ _ (@pg_name _ _ (1) _ (show (["j", "worth", "ending", "i", "starting"] : List Str).Nodup by decide +kernel) (by exact rfl) (Or.inl rfl) (by first | exact .inl rfl | exact .inr rfl | assumption)) pgs_nil (by rfl)) (by rfl)) (by rfl) (by rfl) (by rfl))) (fun _ _ _ _ _ => pts_nil) (fun _ _ _ _ _ => (@pe_def _ _ _ _ _ _ _ _ _ _ _ _ D_through_worth (hr.mono (by decide)) passF (@pa_c _ _ _ _ _ (pv 1) (@pa_c _ _ _ _ _ (@pe_ix _ _ _ _ _ _ _ (ix_listK K) (@pe_ix _ _ _ _ _ _ _ (ix_listK K) (pv 2) (pv 3) (fun _ _ => rfl)) (pv 0) (fun _ _ => rfl)) (@pa_c _ _ _ _ _ (@pe_ix _ _ _ _ _ _ _ (ix_listK K) (@pe_ix _ _ _ _ _ _ _ (ix_listK K) (pv 4) (pv 3) (fun _ _ => rfl)) (pv 0) (fun _ _ => rfl)) pa_nil (by rfl)) (by rfl)) (by rfl)) (by rfl) (by decide) (by rfl) (by rfl))) (by intro _; rfl)) pa_nil (by rfl)) (by rfl) (by rfl) (by rfl) (by rfl) (by rfl) (by rfl)) (by rfl))) (by intro _; rfl)) (@pss_one _ _ _ (@ps_ret _ _ _ _ (pv 7)))))))), ?_⟩
    refine ⟨fun σ H1 => ∃ w as, σ = [some (.ref f1), some (.ref g), some (.ref t), some v, some (.ref w), none, none, none, none, none] ∧ Same H H1 ∧ H1 w = some (.lst (as.map V.ref)) ∧ TabA H1 as (opf c shut) c.xs.length c.ys.length, ?_, ?_⟩
    · exact ⟨_, rfl, _, rfl, _, rfl, _, rfl, f1, g, t, v, c, shut, rfl, hf, hg, TF, TV, hsl, hxl, hyl, fun H1 w s1 ⟨as, hw, _, TA, _⟩ => ⟨w, as, rfl, s1, hw, TA⟩⟩
    rintro σ H1 ⟨w, as, rfl, s1, hw, TA⟩
    refine ⟨fun σ H2 => ∃ e es, σ = [some (.ref f1), some (.ref g), some (.ref t), some v, some (.ref w), some (.ref e), none, none, none, none] ∧ Same H1 H2 ∧ H2 e = some (.lst (es.map V.ref)) ∧ TabA H2 es (endF c shut) c.xs.length c.ys.length, ?_, ?_⟩
    · refine ⟨_, rfl, _, rfl, fun x dx hx hdx hne => ?_⟩
      have s5 : Same H1 (upd (upd H1 dx (.own x)) x (.ins C_Trails dx [])) := (Same.upd hdx).upd2 hx
      refine ⟨x, dx, w, t, c, as, opf c shut, c.xs.length, c.ys.length, rfl, upd_same, by rw [upd_ne hne]; exact upd_same, s5 _ _ hw, TA.same s5, (TF.keep s1).keep s5, hxl, hyl, fun H6 e b sb hx6 Tb6 => ?_⟩
      obtain ⟨es, he, _, TE, _⟩ := Tb6
      exact ⟨rfl, x, C_Trails, dx, _, _, rfl, hx6, Rc.cl, Rc.ending, t_ending c.out c.into e b, e, es, rfl, SameBut.of_new hx hdx sb, he, TE⟩
    rintro σ H2 ⟨e, es, rfl, s2, he, TE⟩
    refine ⟨fun σ H3 => ∃ r rs, σ = [some (.ref f1), some (.ref g), some (.ref t), some v, some (.ref w), some (.ref e), some (.ref r), none, none, none] ∧ Same H2 H3 ∧ H3 r = some (.lst (rs.map V.ref)) ∧ TabA H3 rs (startF c shut) c.xs.length c.ys.length, ?_, ?_⟩
    · exact ⟨_, rfl, _, rfl, w, t, c, as, opf c shut, c.xs.length, c.ys.length, rfl, s2 _ _ hw, TA.same s2, (TF.keep s1).keep s2, hxl, hyl, fun H3 r s3 ⟨rs, h1, _, h3, _⟩ => ⟨r, rs, rfl, s3, h1, h3⟩⟩
    rintro σ H3 ⟨r, rs, rfl, s3, hr3, TS⟩
    have hw := s3 _ _ (s2 _ _ hw)
    have he := s3 _ _ he
    have TA := (TA.same s2).same s3
    have TE := TE.same s3
    have sN := s1.trans (s2.trans s3)
    have hal := TA.len
    refine ⟨fun σ H4 => ∃ D, σ = [some (.ref f1), some (.ref g), some (.ref t), some v, some (.ref w), some (.ref e), some (.ref r), some (.ref D), none, none] ∧ Same H3 H4 ∧ H3 D = none ∧ H4 D = some (.lst []), ?_, ?_⟩
    · exact ⟨le_line (by simp), fun D hD => ⟨D, rfl, Same.upd hD, hD, upd_same⟩⟩
    rintro σ H4 ⟨D, rfl, s4, hD0, hD4⟩
    refine ⟨fun σ H5 => (∃ u1 u2, σ = [some (.ref f1), some (.ref g), some (.ref t), some v, some (.ref w), some (.ref e), some (.ref r), some (.ref D), u1, u2]) ∧ Same H3 H5 ∧ ∃ zs : List Addr, H5 D = some (.lst (zs.map V.ref)) ∧ TabA H5 zs (thruF c shut) c.xs.length c.ys.length ∧ ∀ a ∈ zs, H3 a = none, ?_, ?_⟩
    · refine ⟨_, rfl, w, rfl, ⟨_, .of (s4 _ _ hw)⟩, ?_⟩
      refine for_enum (xs := as.map V.ref) (fun i σ H' => (∃ u1 u2, σ = [some (.ref f1), some (.ref g), some (.ref t), some v, some (.ref w), some (.ref e), some (.ref r), some (.ref D), u1, u2]) ∧ Same H3 H' ∧ ∃ zs : List Addr, H' D = some (.lst (zs.map V.ref)) ∧ TabA H' zs (thruF c shut) i c.ys.length ∧ ∀ a ∈ zs, H3 a = none ∧ a ≠ D) ?_ ?_ ?_ ?_
      · exact ⟨⟨_, _, rfl⟩, s4, [], hD4, ⟨rfl, fun i a h => by simp at h⟩, fun a h => by cases h⟩
      · rintro i σ H' _ ⟨_, s5, _⟩
        exact .of (s5 _ _ hw)
      · rintro i x T' σ H' hx ⟨⟨u1, u2, rfl⟩, s5, zs, hD5, TZ, hn⟩ hT
        have hi : i < c.xs.length := by have := (List.getElem?_eq_some_iff.mp hx).1; rw [List.length_map] at this; omega
        obtain ⟨ra, h1, h2, h3⟩ := TA.at hi
        rw [hx] at h2
        cases h2
        obtain ⟨ea, _, h5, h6⟩ := TE.at hi
        obtain ⟨sa, _, h8, h9⟩ := TS.at hi
        have s6 : Same H3 (upd H' T' (.tup [.int i, .ref ra])) := s5.trans (Same.upd hT)
        have hD6 := Same.upd (o := .tup [.int i, .ref ra]) hT _ _ hD5
        have TZ6 := TZ.same (Same.upd (o := .tup [.int i, .ref ra]) hT)
        refine ⟨T', _, rfl, .of upd_same, rfl, _, _, rfl, _, _, rfl, rfl, ?_⟩
        generalize upd H' T' (.tup [.int i, .ref ra]) = H6 at s6 hD6 TZ6
        clear TZ hD5 s5 hT
        refine ⟨_, rfl, .inl ⟨rfl, _, .of hD6⟩, ?_⟩
        have hra := s6 _ _ h3
        refine ⟨_, rfl, ra, rfl, ⟨_, .of hra⟩, fun L hL => ?_⟩
        have nLD : L ≠ D := Ne.symm (ne_of_none hD6 hL)
        have hzl := TZ6.len
        refine comp_enum (xs := rowV c.ys.length (opf c shut i)) (fun j ys σ' H7 => (∃ w1 w2, σ' = [w1, w2, some (.ref e), some (.int i), some (.ref r)]) ∧ ys = rowV j (thruF c shut i) ∧ H7 L = some (.lst ys) ∧ Same H6 H7) ⟨⟨_, _, rfl⟩, rfl, upd_same, Same.upd hL⟩ ?_ ?_ ?_
        · rintro j ys σ' H7 _ ⟨_, _, _, s7⟩
          exact .of (s7 _ _ hra)
        · rintro j y T2 ys σ' H7 hy ⟨⟨w1, w2, rfl⟩, rfl, hL7, s7⟩ hT2
          have hj : j < c.ys.length := by have := (List.getElem?_eq_some_iff.mp hy).1; rw [rowV_len] at this; exact this
          rw [rowV_at hj] at hy
          cases hy
          have s8 : Same H6 (upd H7 T2 (.tup [.int j, optV (opf c shut i j)])) := s7.trans (Same.upd hT2)
          have hL8 := Same.upd (o := .tup [.int j, optV (opf c shut i j)]) hT2 _ _ hL7
          refine ⟨T2, _, rfl, .of upd_same, rfl, _, _, rfl, _, _, rfl, rfl, ?_⟩
          generalize upd H7 T2 (.tup [.int j, optV (opf c shut i j)]) = H8 at s8 hL8
          have s9 := s6.trans s8
          refine tYes_if ?_
          refine ⟨_, rfl, _, rfl, _, rfl, e, _, _, _, rfl, rfl, .of (s9 _ _ he), atI_nat h5, _, rfl, ea, _, _, _, rfl, rfl, .of (s9 _ _ h6), atI_nat (rowV_at hj), ?_⟩
          refine ⟨_, rfl, _, rfl, r, _, _, _, rfl, rfl, .of (s9 _ _ hr3), atI_nat h8, _, rfl, sa, _, _, _, rfl, rfl, .of (s9 _ _ h9), atI_nat (rowV_at hj), ?_⟩
          refine ⟨opf c shut i j, endF c shut i j, startF c shut i j, rfl, fun z => ?_, ?_⟩
          · have hE := ending_abs (opf c shut) c.out c.into i j
            have hS := starting_abs (opf_in c shut) c.out c.into hi hj
            have one : Wy (lf (opf c shut)) [((i : Int), (j : Int))] := .one (by rw [lf_nat]; exact z)
            constructor
            · cases e1 : endF c shut i j with
              | none =>
                rw [show Eq' (opf c shut) c.out c.into i j = none from e1] at hE
                exact absurd ⟨_, one, rfl, rfl⟩ (hE _)
              | some E => rfl
            · cases e1 : startF c shut i j with
              | none =>
                rw [show Sq (opf c shut) c.xs.length c.ys.length c.out c.into i j = none from e1] at hS
                exact absurd ⟨_, one, rfl, rfl⟩ (hS _)
              | some E => rfl
          · refine ⟨hL8, lt_line (by rw [rowV_len]; omega), ⟨_, _, rfl⟩, ?_, upd_same, s8.upd2 hL⟩
            rw [rowV_succ]; rfl
        · rintro ys σ' H7 ⟨_, rfl, hL7, s7⟩
          rw [rowV_len] at hL7
          refine ⟨D, _, _, rfl, rfl, s7 _ _ hD6, lt_line (by rw [List.length_map]; omega), ⟨_, _, rfl⟩, (s6.trans s7).upd2 hD0, zs ++ [L], by rw [upd_same]; simp, ⟨by simp [hzl], fun k a hk => ?_⟩, fun a ha => ?_⟩
          · by_cases h : k < i
            · rw [List.getElem?_append_left (by omega)] at hk
              rw [upd_ne (hn a (List.mem_of_getElem? hk)).2]
              exact s7 _ _ (TZ6.row k a hk)
            · rw [List.getElem?_append_right (by omega)] at hk
              have hk0 : k - zs.length = 0 := by
                have := (List.getElem?_eq_some_iff.mp hk).1
                simp at this
                omega
              rw [hk0] at hk
              have : L = a := by simpa using hk
              subst this
              rw [upd_ne nLD]
              have : k = i := by omega
              rw [this]; exact hL7
          · rcases List.mem_append.mp ha with ha | ha
            · exact hn a ha
            · have : a = L := by simpa using ha
              rw [this]
              exact ⟨s6.free hL, nLD⟩
      · rintro σ H' ⟨⟨u1, u2, rfl⟩, s5, zs, hD5, TZ, hn⟩
        rw [List.length_map, hal] at TZ
        exact ⟨⟨_, _, rfl⟩, s5, zs, hD5, TZ, fun a ha => (hn a ha).1⟩
    rintro σ H5 ⟨⟨u1, u2, rfl⟩, s5, zs, hD5, TZ, hn⟩
    exact ⟨_, rfl, q H5 D (sN.trans s5) ⟨zs, hD5, sN.free hD0, TZ, fun a ha => sN.free (hn a ha)⟩⟩
theorem sc__law_at : FnScope ["_law_script", "_law_k"] ["_law_script", "_law_k"] (defScope s__law_at) := ⟨rfl, rfl, rfl, by decide +kernel, rfl, by decide +kernel, by decide +kernel⟩
theorem ok__law_at {f : Addr} {fd : FuncData} (F : Fun K "_law_at" "_law_at" s__law_at f fd) (T : TB mg) : FnOk P w K mg base (CXF P w) true 1 f fd ["_law_script", "_law_k"] (sp_at K) := by
  refine F.okX sc__law_at (fun vs H Q E h => ?_) (fun cdv A outer s H vs Q E hr h hX => ?_)
  · obtain ⟨a, ns, k, rfl, _⟩ := h
    rfl
  · obtain ⟨a, ns, k, rfl, hS, h0, q⟩ := h
    refine ⟨_, (@pss_cons _ _ _ _ _ (@ps_if _ _ _ _ _ _ _ _ (@pt_cmpR _ _ _ _ _ _ _ _ op_lt (pv 1) (@pe_callB _ _ _ _ _ _ _ _ _ (call_len_seqK K) (by exact rfl) T.n_len PyProof.Rows.Boot.«len» (@pa_c _ _ _ _ _ (pv 0) pa_nil (by rfl)) (by decide) (by decide) (by rfl) (by rfl)) (nomark _)) (@pss_one _ _ _ (@ps_ret _ _ _ _ (@pe_ix _ _ _ _ _ _ _ (ix_listK K) (pv 0) (pv 1) (fun _ _ => rfl)))) pss_nil) (@pss_one _ _ _ (@ps_ret _ _ _ _ pe_int))), ?_⟩
    refine ⟨_, rfl, _, rfl, a, _, rfl, .inl hS, _, _, rfl, rfl, _, rfl, ?_⟩
    refine ite2 (fun h => ?_) (fun h => ?_)
    · have h : k < ((ns.map V.int).length : Int) := by simpa using h
      rw [List.length_map] at h
      exact ⟨_, rfl, _, rfl, a, _, k, _, rfl, rfl, hS, cell_at h0 h, q⟩
    · have h : ¬ k < ((ns.map V.int).length : Int) := by simpa using h
      rw [List.length_map] at h
      rw [cell_out h0 h] at q
      exact q
theorem sc__law_whole : FnScope ["_law_found"] ["_law_found"] (defScope s__law_whole) := ⟨rfl, rfl, rfl, by decide +kernel, rfl, by decide +kernel, by decide +kernel⟩
theorem ok__law_whole {f : Addr} {fd : FuncData} (F : Fun K "_law_whole" "_law_whole" s__law_whole f fd) (T : TB mg) : FnOk P w K mg base (CXF P w) true 1 f fd ["_law_found"] sp_whole := by
  refine F.okX sc__law_whole (fun vs H Q E h => ?_) (fun cdv A outer s H vs Q E hr h hX => ?_)
  · obtain ⟨i, rfl, _⟩ := h
    rfl
  · obtain ⟨i, rfl, q⟩ := h
    refine ⟨_, (@pss_one _ _ _ (@ps_ret _ _ _ _ (@pe_and _ _ _ _ _ _ _ (@pe_callB _ _ _ _ _ _ _ _ _ (call_isiK K) (by exact rfl) T.n_isinstance PyProof.Rows.Boot.«isinstance» (@pa_c _ _ _ _ _ (pv 0) (@pa_c _ _ _ _ _ (@pe_bltn _ _ (.ty "int") _ _ (by exact rfl) T.n_int PyProof.Rows.Boot.«int» (by exact rfl) (by decide) (by decide)) pa_nil (by rfl)) (by rfl)) (by decide) (by decide) (by rfl) (by rfl)) (@pe_one _ _ _ _ _ (@pe_not _ _ _ _ (@pe_callB _ _ _ _ _ _ _ _ _ (call_isiK K) (by exact rfl) T.n_isinstance PyProof.Rows.Boot.«isinstance» (@pa_c _ _ _ _ _ (pv 0) (@pa_c _ _ _ _ _ (@pe_bltn _ _ (.ty "bool") _ _ (by exact rfl) T.n_bool PyProof.Rows.Boot.«bool» (by exact rfl) (by decide) (by decide)) pa_nil (by rfl)) (by rfl)) (by decide) (by decide) (by rfl) (by rfl))))))), ?_⟩
    refine ⟨_, rfl, _, _, _, true, _, rfl, rfl, .int i, rfl, _, rfl, ?_⟩
    refine iteT ?_
    exact ⟨_, rfl, _, _, _, false, _, rfl, rfl, .int i, by kernel_rfl, _, rfl, q⟩
theorem sc__law_bank : FnScope ["_law_cell", "_law_other", "_law_many", "_law_letters", "_law_stem", "_law_rest", "_law_k", "_law_size", "_law_found", "_law_spot", "_law_sign"] ["_law_cell", "_law_other", "_law_many"] (defScope s__law_bank) := ⟨rfl, rfl, rfl, by decide +kernel, rfl, by decide +kernel, by decide +kernel⟩
theorem ok__law_bank {f : Addr} {fd : FuncData} (F : Fun K "_law_bank" "_law_bank" s__law_bank f fd) (T : TB mg) : FnOk P w K mg base (CXF P w) true 1 f fd ["_law_cell", "_law_other", "_law_many"] sp_bank := by
  refine F.okX sc__law_bank (fun vs H Q E h => ?_) (fun cdv A outer s H vs Q E hr h hX => ?_)
  · obtain ⟨cell, other, many, rfl, _⟩ := h
    rfl
  · obtain ⟨cell, other, many, rfl, hm0, hm, q⟩ := h
    have l26 := abc_len
    have c26 : (0 : Int) < 26 := by decide
    have c12 : (0 : Int) < 12 := by decide
    refine ⟨_, (@pss_cons _ _ _ _ _ (@ps_set _ _ (3) _ _ _ _ sc__law_bank.nd (by exact rfl) (Or.inl rfl) pe_str (by rfl) (by first | exact .inl rfl | exact .inr rfl | assumption)) (@pss_cons _ _ _ _ _ (@ps_set _ _ (4) _ _ _ _ sc__law_bank.nd (by exact rfl) (Or.inl rfl) pe_str (by rfl) (by first | exact .inl rfl | exact .inr rfl | assumption)) (@pss_cons _ _ _ _ _ (@ps_set _ _ (5) _ _ _ _ sc__law_bank.nd (by exact rfl) (Or.inl rfl) (@pe_op _ _ _ _ _ _ _ _ op_fdiv (pv 0) pe_int) (by rfl) (by first | exact .inl rfl | exact .inr rfl | assumption)) (@pss_cons _ _ _ _ _ (@ps_for _ _ _ _ _ _ _ _ hX.own (by exact rfl) (@pi_range1 _ _ _ _ _ _ (by exact rfl) T.n_range (@pa_c _ _ _ _ _ pe_int pa_nil (by rfl)) (by rfl)) (@pg_name _ _ (6) _ sc__law_bank.nd (by exact rfl) (Or.inl rfl) (by first | exact .inl rfl | exact .inr rfl | assumption)) (@pss_cons _ _ _ _ _ (@ps_set _ _ (4) _ _ _ _ sc__law_bank.nd (by exact rfl) (Or.inl rfl) (@pe_op _ _ _ _ _ _ _ _ op_add_str (pv 4) (@pe_ix _ _ _ _ _ _ _ ix_str (pv 3) (@pe_op _ _ _ _ _ _ _ _ op_mod (pv 5) pe_int) (fun _ _ => rfl))) (by rfl) (by first | exact .inl rfl | exact .inr rfl | assumption)) (@pss_one _ _ _ (@ps_set _ _ (5) _ _ _ _ sc__law_bank.nd (by exact rfl) (Or.inl rfl) (@pe_op _ _ _ _ _ _ _ _ op_fdiv (pv 5) pe_int) (by rfl) (by first | exact .inl rfl | exact .inr rfl | assumption)))) (by intro _; rfl)) (@pss_cons _ _ _ _ _ (@ps_set _ _ (7) _ _ _ _ sc__law_bank.nd (by exact rfl) (Or.inl rfl) (@pe_op _ _ _ _ _ _ _ _ op_add pe_int (@pe_op _ _ _ _ _ _ _ _ op_mod (@pe_op _ _ _ _ _ _ _ _ op_fdiv (pv 0) pe_int) pe_int)) (by rfl) (by first | exact .inl rfl | exact .inr rfl | assumption)) (@pss_cons _ _ _ _ _ (@ps_set _ _ (8) _ _ _ _ sc__law_bank.nd (by exact rfl) (Or.inl rfl) (@pe_lst _ _ _ _ pa_nil) (by rfl) (by first | exact .inl rfl | exact .inr rfl | assumption)) (@pss_cons _ _ _ _ _ (@ps_for _ _ _ _ _ _ _ _ hX.own (by exact rfl) (@pi_range1 _ _ _ _ _ _ (by exact rfl) T.n_range (@pa_c _ _ _ _ _ (pv 2) pa_nil (by rfl)) (by rfl)) (@pg_name _ _ (6) _ sc__law_bank.nd (by exact rfl) (Or.inl rfl) (by first | exact .inl rfl | exact .inr rfl | assumption)) (@pss_one _ _ _ (@ps_if _ _ _ _ _ _ _ _ (@pt_cmpR _ _ _ _ _ _ _ _ op_eq (@pe_op _ _ _ _ _ _ _ _ op_mod (pv 0) pe_int) pe_int (nomark _)) (@pss_one _ _ _ (@ps_expr _ _ _ _ (@pe_bmK _ K _ _ _ _ _ _ _ _ _ _ _ PySem.F.plainAttrs_list PySem.F.slot_list_append PySem.F.type_list_append mt_append (pv 8) (@pa_c _ _ _ _ _ (@pe_slice _ _ _ _ _ _ _ _ _ _ sl_str (pv 4) po_none (@po_some _ _ _ (@pe_op _ _ _ _ _ _ _ _ op_add pe_int (@pe_op _ _ _ _ _ _ _ _ op_mod (@pe_op _ _ _ _ _ _ _ _ op_add (pv 7) (pv 6)) pe_int)))) pa_nil (by rfl)) (by rfl) (by rfl) (by rfl) (by rfl) (by rfl) (by rfl)) (by rfl))) (@pss_cons _ _ _ _ _ (@ps_set _ _ (9) _ _ _ _ sc__law_bank.nd (by exact rfl) (Or.inl rfl) (@pe_op _ _ _ _ _ _ _ _ op_mod (pv 1) (pv 7)) (by rfl) (by first | exact .inl rfl | exact .inr rfl | assumption)) (@pss_cons _ _ _ _ _ (@ps_set _ _ (10) _ _ _ _ sc__law_bank.nd (by exact rfl) (Or.inl rfl) (@pe_ix _ _ _ _ _ _ _ ix_str (pv 3) (@pe_op _ _ _ _ _ _ _ _ op_mod (@pe_op _ _ _ _ _ _ _ _ op_add (@pe_op _ _ _ _ _ _ _ _ op_fdiv (pv 1) pe_int) (pv 6)) pe_int) (fun _ _ => rfl)) (by rfl) (by first | exact .inl rfl | exact .inr rfl | assumption)) (@pss_one _ _ _ (@ps_expr _ _ _ _ (@pe_bmK _ K _ _ _ _ _ _ _ _ _ _ _ PySem.F.plainAttrs_list PySem.F.slot_list_append PySem.F.type_list_append mt_append (pv 8) (@pa_c _ _ _ _ _ (@pe_op _ _ _ _ _ _ _ _ op_add_str (@pe_op _ _ _ _ _ _ _ _ op_add_str (@pe_slice _ _ _ _ _ _ _ _ _ _ sl_str (pv 4) po_none (@po_some _ _ _ (pv 9))) (pv 10)) (@pe_slice _ _ _ _ _ _ _ _ _ _ sl_str (pv 4) (@po_some _ _ _ (@pe_op _ _ _ _ _ _ _ _ op_add (pv 9) pe_int)) (@po_some _ _ _ (pv 7)))) pa_nil (by rfl)) (by rfl) (by rfl) (by rfl) (by rfl) (by rfl) (by rfl)) (by rfl))))))) (by intro _; rfl)) (@pss_one _ _ _ (@ps_ret _ _ _ _ (pv 8)))))))))), ?_⟩
    refine ⟨_, rfl, _, _, rfl, rfl, ⟨by decide, by decide⟩, ?_⟩
    refine ⟨12, rfl, by decide, by decide, ?_⟩
    refine for_range (fun i σ H' => H' = H ∧ ∃ (stem : Str) (rest : Int) (kv : Option V), stem.length = i ∧ lows stem ∧ σ = [some (.int cell), some (.int other), some (.int many), some (.str abc), some (.str stem), some (.int rest), kv, none, none, none, none]) ⟨rfl, _, _, _, (by decide +kernel), (show (Str.ofString "").cps.toList.all low = true by decide +kernel), rfl⟩ ?_ ?_
    · rintro i σ H' hi ⟨rfl, stem, rest, kv, hl, hlow, rfl⟩
      have hi : i < 12 := hi
      refine ⟨_, rfl, _, rfl, _, rfl, _, _, rfl, rfl, c26, _, _, _, rfl, rfl, le_line (by omega), abc_is, _, _, rfl, rfl, le_line (show stem.length + 1 ≤ 100000 by omega), ?_⟩
      refine ⟨_, rfl, _, _, rfl, rfl, ⟨by decide, by decide⟩, rfl, _, _, _, ?_, ?_, rfl⟩
      · rw [len_app, hl]; rfl
      · have h1 : stem.cps.toList.all low = true := hlow
        have h2 := low_abc rest
        unfold lows
        rw [app_cps, List.all_append, h1]
        simp [h2]
    · rintro σ H' ⟨rfl, stem, rest, kv, hl, hlow, rfl⟩
      have hl : stem.length = 12 := hl
      refine ⟨_, rfl, _, _, rfl, rfl, ⟨by decide, by decide⟩, _, _, rfl, rfl, c12, _, _, rfl, rfl, ?_⟩
      have z0 : 1 ≤ 1 + cell / 2 % 12 ∧ 1 + cell / 2 % 12 ≤ 12 := by omega
      refine ⟨le_line (by simp), fun D hD => ?_⟩
      refine ⟨_, rfl, many, rfl, by omega, by omega, ?_⟩
      refine for_range (fun i σ H2 => (∃ u v w, σ = [some (.int cell), some (.int other), some (.int many), some (.str abc), some (.str stem), some (.int rest), u, some (.int (1 + cell / 2 % 12)), some (.ref D), v, w]) ∧ H2 D = some (.lst (((List.range i).map (bankW stem cell other)).map V.str)) ∧ Same H' H2) ⟨⟨_, _, _, rfl⟩, upd_same, Same.upd hD⟩ ?_ ?_
      · rintro i σ H2 hi ⟨⟨u, v, w, rfl⟩, hD2, s2⟩
        have hi : i < 12 := by omega
        have nx : ∀ z, z = bankW stem cell other i → (List.range i).map (fun k => V.str (bankW stem cell other k)) ++ [V.str z] = ((List.range (i + 1)).map (bankW stem cell other)).map V.str := fun z e => by
          rw [List.range_succ, e]; simp
        have hlt : (((List.range i).map (bankW stem cell other)).map V.str).length < sizeLine := lt_line (by simp; omega)
        refine ⟨_, rfl, _, _, rfl, rfl, (show (0 : Int) < 2 by decide), rfl, _, rfl, ?_⟩
        refine ite2 (fun h => ?_) (fun h => ?_)
        · have h : cell % 2 = 1 := by simpa using h
          refine ⟨_, rfl, .inl ⟨rfl, _, .of hD2⟩, _, rfl, _, rfl, _, rfl, _, _, rfl, rfl, _, _, rfl, rfl, c12, _, _, rfl, rfl, _, rfl, stem, rfl, le_line (by omega), D, _, _, rfl, rfl, hD2, hlt, ⟨_, _, _, rfl⟩, ?_, s2.upd2 hD⟩
          rw [upd_same]
          have := nx (Txt.slice stem none (some (1 + (1 + cell / 2 % 12 + (0 + (i : Int))) % 12))) (by simp [bankW, h])
          rw [← this]; simp
        · have h : ¬ cell % 2 = 1 := by simpa using h
          have z1 : 0 ≤ other % (1 + cell / 2 % 12) ∧ other % (1 + cell / 2 % 12) < 1 + cell / 2 % 12 := ⟨Int.emod_nonneg _ (by omega), Int.emod_lt_of_pos _ (by omega)⟩
          have b1 := slice_len stem none (some (other % (1 + cell / 2 % 12)))
          have b2 := slice_len stem (some (other % (1 + cell / 2 % 12) + 1)) (some (1 + cell / 2 % 12))
          refine ⟨_, rfl, _, rfl, _, _, rfl, rfl, (show (0 : Int) < 1 + cell / 2 % 12 by omega), ?_⟩
          refine ⟨_, rfl, _, rfl, _, _, rfl, rfl, ⟨by decide, by decide⟩, _, rfl, _, _, rfl, rfl, _, _, rfl, rfl, c26, _, _, _, rfl, rfl, le_line (by omega), abc_is, ?_⟩
          refine ⟨_, rfl, .inl ⟨rfl, _, .of hD2⟩, _, rfl, _, rfl, _, rfl, stem, rfl, le_line (by omega), _, rfl, _, _, rfl, rfl, le_line (show (Txt.slice stem none (some (other % (1 + cell / 2 % 12)))).length + 1 ≤ 100000 by omega), _, rfl, _, rfl, _, _, rfl, rfl, _, rfl, _, rfl, _, rfl, stem, rfl, le_line (by omega), _, _, rfl, rfl, ?_, D, _, _, rfl, rfl, hD2, hlt, ⟨_, _, _, rfl⟩, ?_, s2.upd2 hD⟩
          · rw [len_app]
            exact le_line (show (Txt.slice stem none (some (other % (1 + cell / 2 % 12)))).length + 1 + _ ≤ 100000 by omega)
          rw [upd_same]
          have := nx (Txt.slice stem none (some (other % (1 + cell / 2 % 12))) ++ ⟨#[97 + ((other / 12 + (0 + (i : Int))) % 26).toNat]⟩ ++ Txt.slice stem (some (other % (1 + cell / 2 % 12) + 1)) (some (1 + cell / 2 % 12))) (by simp [bankW, h])
          rw [← this]; simp
      · rintro σ H2 ⟨⟨u, v, w, rfl⟩, hD2, s2⟩
        refine ⟨_, rfl, q H2 D _ s2 hD hD2 (by simp) ?_ (bank_nodup hl cell other (by omega))⟩
        intro z hz
        obtain ⟨k, _, rfl⟩ := List.mem_map.mp hz
        exact bank_isW hl hlow cell other k
theorem sc__law_book : FnScope ["_law_script", "_law_cell", "_law_spot", "_law_many", "_law_bank_here", "_law_book_here", "_law_rest", "_law_k"] ["_law_script", "_law_cell", "_law_spot", "_law_many", "_law_bank_here"] (defScope s__law_book) := ⟨rfl, rfl, rfl, by decide +kernel, rfl, by decide +kernel, by decide +kernel⟩
theorem ok__law_book {f : Addr} {fd : FuncData} (F : Fun K "_law_book" "_law_book" s__law_book f fd) (T : TB mg) (D__law_at : IsDef P w K mg base true 1 "_law_at" ["_law_script", "_law_k"] (sp_at K)) : FnOk P w K mg base (CXF P w) true 2 f fd ["_law_script", "_law_cell", "_law_spot", "_law_many", "_law_bank_here"] (sp_book K) := by
  refine F.okX sc__law_book (fun vs H Q E h => ?_) (fun cdv A outer s H vs Q E hr h hX => ?_)
  · obtain ⟨a, b, ns, zs, c, p, m, rfl, _⟩ := h
    rfl
  · obtain ⟨a, b, ns, zs, c, p, m, rfl, hS, hb, ⟨hz1, hz2⟩, hp0, hm0, hm1, q⟩ := h
    refine ⟨_, (@pss_cons _ _ _ _ _ (@ps_set _ _ (5) _ _ _ _ sc__law_book.nd (by exact rfl) (Or.inl rfl) (@pe_lst _ _ _ _ pa_nil) (by rfl) (by first | exact .inl rfl | exact .inr rfl | assumption)) (@pss_cons _ _ _ _ _ (@ps_set _ _ (6) _ _ _ _ sc__law_book.nd (by exact rfl) (Or.inl rfl) (pv 1) (by rfl) (by first | exact .inl rfl | exact .inr rfl | assumption)) (@pss_cons _ _ _ _ _ (@ps_for _ _ _ _ _ _ _ _ hX.own (by exact rfl) (@pi_range1 _ _ _ _ _ _ (by exact rfl) T.n_range (@pa_c _ _ _ _ _ (pv 3) pa_nil (by rfl)) (by rfl)) (@pg_name _ _ (7) _ sc__law_book.nd (by exact rfl) (Or.inl rfl) (by first | exact .inl rfl | exact .inr rfl | assumption)) (@pss_cons _ _ _ _ _ (@ps_expr _ _ _ _ (@pe_bmK _ K _ _ _ _ _ _ _ _ _ _ _ PySem.F.plainAttrs_list PySem.F.slot_list_append PySem.F.type_list_append mt_append (pv 5) (@pa_c _ _ _ _ _ (@pe_ix _ _ _ _ _ _ _ (ix_listK K) (pv 4) (@pe_op _ _ _ _ _ _ _ _ op_mod (@pe_op _ _ _ _ _ _ _ _ op_add (@pe_op _ _ _ _ _ _ _ _ op_add (pv 6) (pv 7)) (@pe_def _ _ _ _ _ _ _ _ _ _ _ _ D__law_at (hr.mono (by decide)) passF (@pa_c _ _ _ _ _ (pv 0) (@pa_c _ _ _ _ _ (@pe_op _ _ _ _ _ _ _ _ op_add (pv 2) (pv 7)) pa_nil (by rfl)) (by rfl)) (by rfl) (by decide) (by rfl) (by rfl))) (@pe_callB _ _ _ _ _ _ _ _ _ (call_len_seqK K) (by exact rfl) T.n_len PyProof.Rows.Boot.«len» (@pa_c _ _ _ _ _ (pv 4) pa_nil (by rfl)) (by decide) (by decide) (by rfl) (by rfl))) (fun _ _ => rfl)) pa_nil (by rfl)) (by rfl) (by rfl) (by rfl) (by rfl) (by rfl) (by rfl)) (by rfl)) (@pss_one _ _ _ (@ps_set _ _ (6) _ _ _ _ sc__law_book.nd (by exact rfl) (Or.inl rfl) (@pe_op _ _ _ _ _ _ _ _ op_fdiv (pv 6) (@pe_callB _ _ _ _ _ _ _ _ _ (call_len_seqK K) (by exact rfl) T.n_len PyProof.Rows.Boot.«len» (@pa_c _ _ _ _ _ (pv 4) pa_nil (by rfl)) (by decide) (by decide) (by rfl) (by rfl))) (by rfl) (by first | exact .inl rfl | exact .inr rfl | assumption)))) (by intro _; rfl)) (@pss_one _ _ _ (@ps_ret _ _ _ _ (pv 5)))))), ?_⟩
    refine ⟨le_line (by simp), fun l hl => ?_⟩
    refine ⟨_, rfl, ?_⟩
    refine ⟨_, rfl, m, rfl, by omega, by omega, ?_⟩
    refine for_range (fun i σ H' => (∃ r u, σ = [some (.ref a), some (.int c), some (.int p), some (.int m), some (.ref b), some (.ref l), some (.int r), u]) ∧ Same H H' ∧ ∃ ws : List Str, H' l = some (.lst (ws.map V.str)) ∧ ws.length = i ∧ ∀ w ∈ ws, w ∈ zs) ⟨⟨_, _, rfl⟩, Same.upd hl, [], upd_same, rfl, fun w hw => by cases hw⟩ ?_ ?_
    · rintro i σ H' hi ⟨⟨r, u, rfl⟩, s1, ws, hl1, hw1, hw2⟩
      have hi : i < m.toNat := hi
      have hb1 := s1 _ _ hb
      have z0 : 0 ≤ (r + (0 + (i : Int)) + cell ns (p + (0 + (i : Int)))) % (zs.length : Int) := Int.emod_nonneg _ (by omega)
      have z1 : (r + (0 + (i : Int)) + cell ns (p + (0 + (i : Int)))) % (zs.length : Int) < (zs.length : Int) := Int.emod_lt_of_pos _ (by omega)
      obtain ⟨w, hw, hat⟩ := str_at zs z0 z1
      have el : (zs.map V.str).length = zs.length := List.length_map ..
      refine ⟨_, rfl, .inl ⟨rfl, _, .of hl1⟩, _, rfl, _, rfl, _, rfl, _, _, rfl, rfl, _, rfl, _, rfl, _, rfl, _, _, rfl, rfl, a, ns, _, rfl, s1.seq hS, by omega, _, _, rfl, rfl, _, rfl, b, _, rfl, .inl (.of hb1), _, _, rfl, rfl, (by rw [el]; show (0 : Int) < _; omega), b, _, _, _, rfl, rfl, .of hb1, (by rw [el]; exact hat), l, _, _, rfl, rfl, hl1, lt_line (by rw [List.length_map]; omega), ?_⟩
      have hbl : b ≠ l := ne_of_none hb hl
      have hb2 : upd H' l (.lst (ws.map V.str ++ [.str w])) b = some (.lst (zs.map V.str)) := by rw [upd_ne hbl]; exact hb1
      refine ⟨_, rfl, _, rfl, b, _, rfl, .inl (.of hb2), _, _, rfl, rfl, ⟨by rw [el]; omega, by rw [el]; omega⟩, ⟨_, _, rfl⟩, s1.upd2 hl, ws ++ [w], ?_, by simp [hw1], ?_⟩
      · rw [upd_same]; simp
      · intro x hx
        rcases List.mem_append.mp hx with hx | hx
        · exact hw2 x hx
        · have : x = w := by simpa using hx
          rw [this]; exact hw
    · rintro σ H' ⟨⟨r, u, rfl⟩, s1, ws, hl1, hw1, hw2⟩
      exact ⟨_, rfl, q H' l ws s1 hl hl1 hw1 hw2⟩
theorem sc__law_quote : FnScope ["_law_script", "_law_cell", "_law_spot", "_law_many", "_law_first", "_law_bank_here", "_law_book_here", "_law_rest", "_law_place", "_law_k", "_law_pick"] ["_law_script", "_law_cell", "_law_spot", "_law_many", "_law_first", "_law_bank_here"] (defScope s__law_quote) := ⟨rfl, rfl, rfl, by decide +kernel, rfl, by decide +kernel, by decide +kernel⟩
theorem ok__law_quote {f : Addr} {fd : FuncData} (F : Fun K "_law_quote" "_law_quote" s__law_quote f fd) (T : TB mg) (D__law_at : IsDef P w K mg base true 1 "_law_at" ["_law_script", "_law_k"] (sp_at K)) : FnOk P w K mg base (CXF P w) true 2 f fd ["_law_script", "_law_cell", "_law_spot", "_law_many", "_law_first", "_law_bank_here"] (sp_quote K) := by
  refine F.okX sc__law_quote (fun vs H Q E h => ?_) (fun cdv A outer s H vs Q E hr h hX => ?_)
  · obtain ⟨a, b, x, ns, zs, ws0, c, p, m, rfl, _⟩ := h
    rfl
  · obtain ⟨a, b, x, ns, zs, ws0, c, p, m, rfl, hS, hb, hx, ⟨hz1, hz2⟩, hx2, hxz, hp0, hm0, hm1, q⟩ := h
    have hu := hr.units
    have hu0 : (A.deeper (PyProof.Rows.envOfC "_law_quote" (defScope s__law_quote) s.heap.objs.size f cdv)).units < cLine := by omega
    have c8 : (0 : Int) < 8 := by decide
    refine ⟨_, (@pss_cons _ _ _ _ _ (@ps_set _ _ (6) _ _ _ _ sc__law_quote.nd (by exact rfl) (Or.inl rfl) (@pe_lst _ _ _ _ pa_nil) (by rfl) (by first | exact .inl rfl | exact .inr rfl | assumption)) (@pss_cons _ _ _ _ _ (@ps_set _ _ (7) _ _ _ _ sc__law_quote.nd (by exact rfl) (Or.inl rfl) (pv 1) (by rfl) (by first | exact .inl rfl | exact .inr rfl | assumption)) (@pss_cons _ _ _ _ _ (@ps_set _ _ (8) _ _ _ _ sc__law_quote.nd (by exact rfl) (Or.inl rfl) pe_int (by rfl) (by first | exact .inl rfl | exact .inr rfl | assumption)) (@pss_cons _ _ _ _ _ (@ps_for _ _ _ _ _ _ _ _ hX.own (by exact rfl) (@pi_range1 _ _ _ _ _ _ (by exact rfl) T.n_range (@pa_c _ _ _ _ _ (pv 3) pa_nil (by rfl)) (by rfl)) (@pg_name _ _ (9) _ sc__law_quote.nd (by exact rfl) (Or.inl rfl) (by first | exact .inl rfl | exact .inr rfl | assumption)) (@pss_cons _ _ _ _ _ (@ps_set _ _ (10) _ _ _ _ sc__law_quote.nd (by exact rfl) (Or.inl rfl) (@pe_op _ _ _ _ _ _ _ _ op_add (pv 7) (@pe_def _ _ _ _ _ _ _ _ _ _ _ _ D__law_at (hr.mono (by decide)) passF (@pa_c _ _ _ _ _ (pv 0) (@pa_c _ _ _ _ _ (@pe_op _ _ _ _ _ _ _ _ op_add (pv 2) (pv 9)) pa_nil (by rfl)) (by rfl)) (by rfl) (by decide) (by rfl) (by rfl))) (by rfl) (by first | exact .inl rfl | exact .inr rfl | assumption)) (@pss_cons _ _ _ _ _ (@ps_set _ _ (7) _ _ _ _ sc__law_quote.nd (by exact rfl) (Or.inl rfl) (@pe_op _ _ _ _ _ _ _ _ op_fdiv (pv 7) (@pe_op _ _ _ _ _ _ _ _ op_mul pe_int (@pe_callB _ _ _ _ _ _ _ _ _ (call_len_seqK K) (by exact rfl) T.n_len PyProof.Rows.Boot.«len» (@pa_c _ _ _ _ _ (pv 5) pa_nil (by rfl)) (by decide) (by decide) (by rfl) (by rfl)))) (by rfl) (by first | exact .inl rfl | exact .inr rfl | assumption)) (@pss_one _ _ _ (@ps_if _ _ _ _ _ _ _ _ (@PW.pt _ _ _ (@pw_and _ _ _ _ _ _ _ (@pt_cmpR _ _ _ _ _ _ _ _ op_lt (@pe_op _ _ _ _ _ _ _ _ op_mod (pv 10) pe_int) pe_int (nomark _)) (@pw_and1 _ _ _ _ (@pt_cmpR _ _ _ _ _ _ _ _ (op_ne_nilK K hu0) (pv 4) (@pe_lst _ _ _ _ pa_nil) (nomark _))))) (@pss_cons _ _ _ _ _ (@ps_set _ _ (8) _ _ _ _ sc__law_quote.nd (by exact rfl) (Or.inl rfl) (@pe_op _ _ _ _ _ _ _ _ op_add (pv 8) (@pe_callTy _ _ _ _ _ _ _ _ _ call_int1 (by exact rfl) T.n_int PyProof.Rows.Boot.«int» (@pa_c _ _ _ _ _ (@pe_cmpR _ _ _ _ _ _ _ _ op_eq (@pe_op _ _ _ _ _ _ _ _ op_mod (pv 10) pe_int) pe_int (nomark _)) pa_nil (by rfl)) (by decide) (by decide) (by rfl) (by rfl))) (by rfl) (by first | exact .inl rfl | exact .inr rfl | assumption)) (@pss_cons _ _ _ _ _ (@ps_expr _ _ _ _ (@pe_bmK _ K _ _ _ _ _ _ _ _ _ _ _ PySem.F.plainAttrs_list PySem.F.slot_list_append PySem.F.type_list_append mt_append (pv 6) (@pa_c _ _ _ _ _ (@pe_ix _ _ _ _ _ _ _ (ix_listK K) (pv 4) (@pe_op _ _ _ _ _ _ _ _ op_mod (pv 8) (@pe_callB _ _ _ _ _ _ _ _ _ (call_len_seqK K) (by exact rfl) T.n_len PyProof.Rows.Boot.«len» (@pa_c _ _ _ _ _ (pv 4) pa_nil (by rfl)) (by decide) (by decide) (by rfl) (by rfl))) (fun _ _ => rfl)) pa_nil (by rfl)) (by rfl) (by rfl) (by rfl) (by rfl) (by rfl) (by rfl)) (by rfl)) (@pss_one _ _ _ (@ps_set _ _ (8) _ _ _ _ sc__law_quote.nd (by exact rfl) (Or.inl rfl) (@pe_op _ _ _ _ _ _ _ _ op_add (pv 8) pe_int) (by rfl) (by first | exact .inl rfl | exact .inr rfl | assumption))))) (@pss_one _ _ _ (@ps_expr _ _ _ _ (@pe_bmK _ K _ _ _ _ _ _ _ _ _ _ _ PySem.F.plainAttrs_list PySem.F.slot_list_append PySem.F.type_list_append mt_append (pv 6) (@pa_c _ _ _ _ _ (@pe_ix _ _ _ _ _ _ _ (ix_listK K) (pv 5) (@pe_op _ _ _ _ _ _ _ _ op_mod (@pe_op _ _ _ _ _ _ _ _ op_fdiv (pv 10) pe_int) (@pe_callB _ _ _ _ _ _ _ _ _ (call_len_seqK K) (by exact rfl) T.n_len PyProof.Rows.Boot.«len» (@pa_c _ _ _ _ _ (pv 5) pa_nil (by rfl)) (by decide) (by decide) (by rfl) (by rfl))) (fun _ _ => rfl)) pa_nil (by rfl)) (by rfl) (by rfl) (by rfl) (by rfl) (by rfl) (by rfl)) (by rfl))))))) (by intro _; rfl)) (@pss_one _ _ _ (@ps_ret _ _ _ _ (pv 6))))))), ?_⟩
    refine ⟨le_line (by simp), fun l hl => ?_⟩
    refine ⟨_, rfl, ?_⟩
    refine ⟨_, rfl, m, rfl, by omega, by omega, ?_⟩
    refine for_range (fun i σ H' => (∃ (r pl : Int) (u1 u2 : Option V), σ = [some (.ref a), some (.int c), some (.int p), some (.int m), some (.ref x), some (.ref b), some (.ref l), some (.int r), some (.int pl), u1, u2]) ∧ Same H H' ∧ ∃ ws : List Str, H' l = some (.lst (ws.map V.str)) ∧ ws.length = i ∧ ∀ w ∈ ws, w ∈ zs) ⟨⟨_, _, _, _, rfl⟩, Same.upd hl, [], upd_same, rfl, fun w hw => by cases hw⟩ ?_ ?_
    · rintro i σ H' hi ⟨⟨r, pl, u1, u2, rfl⟩, s1, ws, hl1, hw1, hw2⟩
      have hi : i < m.toNat := hi
      have hb1 := s1 _ _ hb
      have hx1 := s1 _ _ hx
      have el : (zs.map V.str).length = zs.length := List.length_map ..
      have elx : (ws0.map V.str).length = ws0.length := List.length_map ..
      have hlt : (ws.map V.str).length < sizeLine := lt_line (by rw [List.length_map]; omega)
      refine ⟨_, rfl, _, rfl, _, rfl, _, rfl, _, _, rfl, rfl, a, ns, _, rfl, s1.seq hS, by omega, _, _, rfl, rfl, ?_⟩
      refine ⟨_, rfl, _, rfl, b, _, rfl, .inl (.of hb1), _, _, rfl, rfl, .inl (by decide), _, _, rfl, rfl, ⟨by rw [el]; omega, by rw [el]; omega⟩, ?_⟩
      have fin : ∀ H3 (w : Str), Same H H3 → H3 l = some (.lst (ws.map V.str)) → w ∈ zs → Same H (upd H3 l (.lst (ws.map V.str ++ [.str w]))) ∧ ∃ ws2 : List Str, upd H3 l (.lst (ws.map V.str ++ [.str w])) l = some (.lst (ws2.map V.str)) ∧ ws2.length = i + 1 ∧ ∀ w ∈ ws2, w ∈ zs := fun H3 w s3 h3 hw => by
        refine ⟨s3.upd2 hl, ws ++ [w], by rw [upd_same]; simp, by simp [hw1], fun x hx => ?_⟩
        rcases List.mem_append.mp hx with hx | hx
        · exact hw2 x hx
        · have : x = w := by simpa using hx
          rw [this]; exact hw
      have other : ∀ H3, Same H H3 → H3 l = some (.lst (ws.map V.str)) → H3 b = some (.lst (zs.map V.str)) → ∃ w, w ∈ zs ∧ atI (zs.map V.str) ((r + cell ns (p + (0 + (i : Int)))) / 8 % ((zs.map V.str).length : Int)) = some (.str w) := fun H3 _ _ _ => by
        rw [el]
        exact str_at zs (Int.emod_nonneg _ (by omega)) (Int.emod_lt_of_pos _ (by omega))
      refine ⟨_, rfl, _, _, rfl, rfl, c8, _, _, rfl, rfl, _, rfl, ?_⟩
      refine ite2 (fun h1 => ?_) (fun h1 => ?_)
      · refine ⟨_, rfl, le_line (by simp), fun pn hpn => ⟨x, pn, _, rfl, rfl, .of (Same.upd hpn _ _ hx1), .of upd_same, _, rfl, ?_⟩⟩
        have s2 : Same H (upd H' pn (.lst [])) := s1.trans (Same.upd hpn)
        have hl2 := Same.upd (o := .lst []) hpn _ _ hl1
        refine ite2 (fun h2 => ?_) (fun h2 => ?_)
        · have hne : ws0 ≠ [] := by simpa using h2
          have hpos : 0 < ws0.length := List.length_pos_iff.mpr hne
          obtain ⟨w, hw, hat⟩ := str_at ws0 (i := (pl + (if decide ((r + cell ns (p + (0 + (i : Int)))) % 8 = 4) = true then 1 else 0)) % ((ws0.length : Nat) : Int)) (Int.emod_nonneg _ (by omega)) (Int.emod_lt_of_pos _ (by omega))
          obtain ⟨a1, a2⟩ := fin _ w s2 hl2 (hxz w hw)
          refine ⟨_, rfl, _, rfl, _, _, rfl, rfl, c8, rfl, .inr ⟨_, rfl, _, _, rfl, rfl, ?_⟩⟩
          refine ⟨_, rfl, .inl ⟨rfl, _, .of hl2⟩, _, rfl, _, rfl, _, rfl, x, _, rfl, .inl (.of (s2 _ _ hx)), _, _, rfl, rfl, (by rw [elx]; show (0 : Int) < _; omega), x, _, _, _, rfl, rfl, .of (s2 _ _ hx), by rw [elx]; simpa [beq_iff_eq, eqV] using hat, l, _, _, rfl, rfl, hl2, hlt, ?_⟩
          exact ⟨_, rfl, _, _, rfl, rfl, ⟨_, _, _, _, rfl⟩, a1, a2⟩
        · obtain ⟨w, hw, hat⟩ := other _ s2 hl2 (s2 _ _ hb)
          obtain ⟨a1, a2⟩ := fin _ w s2 hl2 hw
          refine ⟨_, rfl, .inl ⟨rfl, _, .of hl2⟩, _, rfl, _, rfl, _, _, rfl, rfl, ⟨by decide, by decide⟩, _, rfl, b, _, rfl, .inl (.of (s2 _ _ hb)), _, _, rfl, rfl, (by rw [el]; show (0 : Int) < _; omega), b, _, _, _, rfl, rfl, .of (s2 _ _ hb), hat, l, _, _, rfl, rfl, hl2, hlt, ⟨_, _, _, _, rfl⟩, a1, a2⟩
      · refine iteF ?_
        obtain ⟨w, hw, hat⟩ := other _ s1 hl1 hb1
        obtain ⟨a1, a2⟩ := fin _ w s1 hl1 hw
        refine ⟨_, rfl, .inl ⟨rfl, _, .of hl1⟩, _, rfl, _, rfl, _, _, rfl, rfl, ⟨by decide, by decide⟩, _, rfl, b, _, rfl, .inl (.of hb1), _, _, rfl, rfl, (by rw [el]; show (0 : Int) < _; omega), b, _, _, _, rfl, rfl, .of hb1, hat, l, _, _, rfl, rfl, hl1, hlt, ⟨_, _, _, _, rfl⟩, a1, a2⟩
    · rintro σ H' ⟨⟨r, pl, u1, u2, rfl⟩, s1, ws, hl1, hw1, hw2⟩
      exact ⟨_, rfl, q H' l ws s1 hl hl1 hw1 hw2⟩
theorem sc__law_numbers : FnScope ["_law_script", "_law_spot", "_law_pick", "_law_same", "_law_most"] ["_law_script", "_law_spot"] (defScope s__law_numbers) := ⟨rfl, rfl, rfl, by decide +kernel, rfl, by decide +kernel, by decide +kernel⟩
theorem ok__law_numbers {f : Addr} {fd : FuncData} (F : Fun K "_law_numbers" "_law_numbers" s__law_numbers f fd) (T : TB mg) (D__law_at : IsDef P w K mg base true 1 "_law_at" ["_law_script", "_law_k"] (sp_at K)) : FnOk P w K mg base (CXF P w) true 2 f fd ["_law_script", "_law_spot"] (sp_numbers K) := by
  refine F.okX sc__law_numbers (fun vs H Q E h => ?_) (fun cdv A outer s H vs Q E hr h hX => ?_)
  · obtain ⟨a, ns, k, rfl, _⟩ := h
    rfl
  · obtain ⟨a, ns, k, rfl, hS, h0, q⟩ := h
    have c2 : (0 : Int) < 2 := by decide
    have c4 : (0 : Int) < 4 := by decide
    have c6 : (0 : Int) < 6 := by decide
    have cM : (0 : Int) < 1000000 := by decide
    have cd4 : ∀ i : Int, CDiv i 4 := fun i => ⟨by decide, by decide⟩
    have cd8 : ∀ i : Int, CDiv i 8 := fun i => ⟨by decide, by decide⟩
    refine ⟨_, (@pss_cons _ _ _ _ _ (@ps_comp _ _ _ _ _ _ _ _ _ _ _ _ _ _ _ (2) _ _ (by exact rfl) sc__law_numbers.nd (by exact rfl) (by exact rfl) (show CompScope ["_law_script", "_law_spot", "_law_pick", "_law_same", "_law_most"] (defScope s__law_numbers) _ ["_law_k"] [0, 1] ["_law_script", "_law_spot"] from ⟨rfl, by decide +kernel, by decide +kernel, by decide +kernel, rfl, rfl, by decide +kernel, by decide +kernel, by decide +kernel⟩) (@pi_range1 _ _ _ _ _ _ (by exact rfl) T.n_range (@pa_c _ _ _ _ _ pe_int pa_nil (by rfl)) (by rfl)) (fun _ _ _ _ _ => (@pg_name _ _ (0) _ (show (["_law_k", "_law_script", "_law_spot"] : List Str).Nodup by decide +kernel) (by exact rfl) (Or.inl rfl) (by first | exact .inl rfl | exact .inr rfl | assumption))) (fun _ _ _ _ _ => pts_nil) (fun _ _ _ _ _ => (@pe_def _ _ _ _ _ _ _ _ _ _ _ _ D__law_at (hr.mono (by decide)) passF (@pa_c _ _ _ _ _ (pv 1) (@pa_c _ _ _ _ _ (@pe_op _ _ _ _ _ _ _ _ op_add (pv 2) (pv 0)) pa_nil (by rfl)) (by rfl)) (by rfl) (by decide) (by rfl) (by rfl))) (by rfl) (by intro _; rfl)) (@pss_cons _ _ _ _ _ (@ps_if _ _ _ _ _ _ _ _ (@pt_cmpR _ _ _ _ _ _ _ _ op_lt (@pe_op _ _ _ _ _ _ _ _ op_mod (@pe_ix _ _ _ _ _ _ _ (ix_listK K) (pv 2) pe_int (fun _ _ => rfl)) pe_int) pe_int (nomark _)) (@pss_cons _ _ _ _ _ (@ps_set _ _ (3) _ _ _ _ sc__law_numbers.nd (by exact rfl) (Or.inl rfl) (@pe_op _ _ _ _ _ _ _ _ op_add pe_int (@pe_op _ _ _ _ _ _ _ _ op_mod (@pe_op _ _ _ _ _ _ _ _ op_fdiv (@pe_ix _ _ _ _ _ _ _ (ix_listK K) (pv 2) pe_int (fun _ _ => rfl)) pe_int) pe_int)) (by rfl) (by first | exact .inl rfl | exact .inr rfl | assumption)) (@pss_one _ _ _ (@ps_ret _ _ _ _ (@pe_lst _ _ _ _ (@pa_c _ _ _ _ _ (pv 3) (@pa_c _ _ _ _ _ (@pe_op _ _ _ _ _ _ _ _ op_mod (@pe_ix _ _ _ _ _ _ _ (ix_listK K) (pv 2) pe_int (fun _ _ => rfl)) pe_int) (@pa_c _ _ _ _ _ (@pe_op _ _ _ _ _ _ _ _ op_mod (@pe_ix _ _ _ _ _ _ _ (ix_listK K) (pv 2) pe_int (fun _ _ => rfl)) pe_int) (@pa_c _ _ _ _ _ (@pe_op _ _ _ _ _ _ _ _ op_add pe_int (@pe_op _ _ _ _ _ _ _ _ op_mod (@pe_ix _ _ _ _ _ _ _ (ix_listK K) (pv 2) pe_int (fun _ _ => rfl)) (@pe_op _ _ _ _ _ _ _ _ op_mul pe_int (pv 3)))) pa_nil (by rfl)) (by rfl)) (by rfl)) (by rfl)))))) pss_nil) (@pss_cons _ _ _ _ _ (@ps_set _ _ (3) _ _ _ _ sc__law_numbers.nd (by exact rfl) (Or.inl rfl) (@pe_op _ _ _ _ _ _ _ _ op_add pe_int (@pe_op _ _ _ _ _ _ _ _ op_mod (@pe_op _ _ _ _ _ _ _ _ op_fdiv (@pe_ix _ _ _ _ _ _ _ (ix_listK K) (pv 2) pe_int (fun _ _ => rfl)) pe_int) pe_int)) (by rfl) (by first | exact .inl rfl | exact .inr rfl | assumption)) (@pss_cons _ _ _ _ _ (@ps_set _ _ (4) _ _ _ _ sc__law_numbers.nd (by exact rfl) (Or.inl rfl) (@pe_ix _ _ _ _ _ _ _ (ix_listK K) (@pe_lst _ _ _ _ (@pa_c _ _ _ _ _ (@pe_callB _ _ _ _ _ _ _ _ _ (call_min2 rfl) (by exact rfl) T.n_min PyProof.Rows.Boot.«min» (@pa_c _ _ _ _ _ pe_int (@pa_c _ _ _ _ _ (@pe_op _ _ _ _ _ _ _ _ op_mul pe_int (pv 3)) pa_nil (by rfl)) (by rfl)) (by decide) (by decide) (by rfl) (by rfl)) (@pa_c _ _ _ _ _ pe_int pa_nil (by rfl)) (by rfl))) (@pe_op _ _ _ _ _ _ _ _ op_mod (@pe_op _ _ _ _ _ _ _ _ op_fdiv (@pe_ix _ _ _ _ _ _ _ (ix_listK K) (pv 2) pe_int (fun _ _ => rfl)) pe_int) pe_int) (fun _ _ => rfl)) (by rfl) (by first | exact .inl rfl | exact .inr rfl | assumption)) (@pss_one _ _ _ (@ps_ret _ _ _ _ (@pe_lst _ _ _ _ (@pa_c _ _ _ _ _ (pv 3) (@pa_c _ _ _ _ _ (@pe_op _ _ _ _ _ _ _ _ op_mod (@pe_ix _ _ _ _ _ _ _ (ix_listK K) (pv 2) pe_int (fun _ _ => rfl)) pe_int) (@pa_c _ _ _ _ _ (@pe_op _ _ _ _ _ _ _ _ op_mod (@pe_ix _ _ _ _ _ _ _ (ix_listK K) (pv 2) pe_int (fun _ _ => rfl)) pe_int) (@pa_c _ _ _ _ _ (@pe_op _ _ _ _ _ _ _ _ op_add pe_int (@pe_op _ _ _ _ _ _ _ _ op_mod (@pe_ix _ _ _ _ _ _ _ (ix_listK K) (pv 2) pe_int (fun _ _ => rfl)) (pv 4))) pa_nil (by rfl)) (by rfl)) (by rfl)) (by rfl))))))))), ?_⟩
    refine ⟨4, rfl, by decide, by decide, fun D hD => ?_⟩
    refine comp_range (fun i ys σ' H' => (∃ u, σ' = [u, some (.ref a), some (.int k)]) ∧ ∃ is : List Int, ys = is.map V.int ∧ is.length = i ∧ H' D = some (.lst ys) ∧ Same H H') ⟨⟨_, rfl⟩, [], rfl, rfl, upd_same, Same.upd hD⟩ ?_ ?_
    · rintro i ys σ' H' hi ⟨⟨u, rfl⟩, is, rfl, hl, hDl, s1⟩
      have hi : i < 4 := hi
      refine gN_yes ?_
      exact ⟨_, rfl, _, rfl, _, rfl, _, _, rfl, rfl, a, ns, _, rfl, s1.seq hS, by omega, hDl, lt_line (by rw [List.length_map]; omega), ⟨_, rfl⟩, is ++ [cell ns (k + (0 + (i : Int)))], by simp, by simp [hl], upd_same, s1.upd2 hD⟩
    · rintro ys σ' H1 ⟨_, is, rfl, hl, hD1, s1⟩
      obtain ⟨p0, p1, p2, p3, rfl⟩ := four_of hl
      refine ⟨_, rfl, D, _, 0, _, rfl, rfl, .of hD1, atI_nat (j := 0) rfl, _, _, rfl, rfl, c4, _, _, rfl, rfl, _, rfl, ?_⟩
      refine ite2 (fun _ => ?_) (fun _ => ?_)
      · refine ⟨_, rfl, D, _, 0, _, rfl, rfl, .of hD1, atI_nat (j := 0) rfl, _, _, rfl, rfl, cd4 _, _, _, rfl, rfl, c6, _, _, rfl, rfl, ?_⟩
        have z0 : 1 ≤ 1 + p0 / 4 % 6 ∧ 1 + p0 / 4 % 6 ≤ 6 := by omega
        have z3 : 0 ≤ p3 % (3 * (1 + p0 / 4 % 6)) := Int.emod_nonneg _ (by omega)
        have z4 : p3 % (3 * (1 + p0 / 4 % 6)) < 3 * (1 + p0 / 4 % 6) := Int.emod_lt_of_pos _ (by omega)
        exact ⟨_, rfl, _, rfl, D, _, 1, _, rfl, rfl, .of hD1, atI_nat (j := 1) rfl, _, _, rfl, rfl, c4, _, rfl, D, _, 2, _, rfl, rfl, .of hD1, atI_nat (j := 2) rfl, _, _, rfl, rfl, c4, _, rfl, D, _, 3, _, rfl, rfl, .of hD1, atI_nat (j := 3) rfl, _, rfl, _, _, rfl, rfl, .inl (by decide), _, _, rfl, rfl, (show (0 : Int) < 3 * (1 + p0 / 4 % 6) by omega), _, _, rfl, rfl, le_line (by simp), fun p hp => q _ p _ _ _ _ (s1.trans (Same.upd hp)) (s1.free hp) upd_same (by omega) (by omega) (by omega) (by omega)⟩
      · refine ⟨_, rfl, D, _, 0, _, rfl, rfl, .of hD1, atI_nat (j := 0) rfl, _, _, rfl, rfl, cd8 _, _, _, rfl, rfl, (show (0 : Int) < 999999 by decide), _, _, rfl, rfl, ?_⟩
        have z0 : 1 ≤ 1 + p0 / 8 % 999999 ∧ 1 + p0 / 8 % 999999 ≤ 999999 := by omega
        obtain ⟨m, hm1, hm⟩ := int_at [if 3 * (1 + p0 / 8 % 999999) < 999999 then 3 * (1 + p0 / 8 % 999999) else 999999, 999999] (i := p0 / 4 % 2) (by omega) (show p0 / 4 % 2 < 2 by omega)
        have hm2 : 1 ≤ m ∧ m ≤ 999999 := by
          simp only [List.mem_cons, List.not_mem_nil, or_false] at hm1
          rcases hm1 with rfl | rfl
          · split <;> omega
          · omega
        refine ⟨_, rfl, _, _, rfl, rfl, .inl (by decide), _, _, rfl, le_line (by simp), fun p hp => ?_⟩
        have hD2 := Same.upd (o := .lst [.int (if 3 * (1 + p0 / 8 % 999999) < 999999 then 3 * (1 + p0 / 8 % 999999) else 999999), .int 999999]) hp _ _ hD1
        refine ⟨_, rfl, D, _, 0, _, rfl, rfl, .of hD2, atI_nat (j := 0) rfl, _, _, rfl, rfl, cd4 _, _, _, rfl, rfl, c2, p, _, _, _, rfl, rfl, .of upd_same, hm, ?_⟩
        have z3 : 0 ≤ p3 % m := Int.emod_nonneg _ (by omega)
        have z4 : p3 % m < m := Int.emod_lt_of_pos _ (by omega)
        exact ⟨_, rfl, _, rfl, D, _, 1, _, rfl, rfl, .of hD2, atI_nat (j := 1) rfl, _, _, rfl, rfl, cM, _, rfl, D, _, 2, _, rfl, rfl, .of hD2, atI_nat (j := 2) rfl, _, _, rfl, rfl, cM, _, rfl, D, _, 3, _, rfl, rfl, .of hD2, atI_nat (j := 3) rfl, _, rfl, _, _, rfl, rfl, (show (0 : Int) < m by omega), _, _, rfl, rfl, le_line (by simp), fun p2 hp2 => q _ p2 _ _ _ _ ((s1.trans (Same.upd hp)).trans (Same.upd hp2)) ((s1.trans (Same.upd hp)).free hp2) upd_same (by omega) (by omega) (by omega) (by omega)⟩
theorem sc__law_near : FnScope ["_law_cell", "_law_bank_here", "_law_same", "_law_found", "_law_rest", "_law_x", "_law_y", "_law_price"] ["_law_cell", "_law_bank_here", "_law_same"] (defScope s__law_near) := ⟨rfl, rfl, rfl, by decide +kernel, rfl, by decide +kernel, by decide +kernel⟩
theorem ok__law_near {f : Addr} {fd : FuncData} (F : Fun K "_law_near" "_law_near" s__law_near f fd) (T : TB mg) : FnOk P w K mg base (CXF P w) true 1 f fd ["_law_cell", "_law_bank_here", "_law_same"] sp_near := by
  refine F.okX sc__law_near (fun vs H Q E h => ?_) (fun cdv A outer s H vs Q E hr h hX => ?_)
  · obtain ⟨cell, same, b, zs, rfl, _⟩ := h
    rfl
  · obtain ⟨cell, same, b, zs, rfl, hb, hz8, hw, hn, hs1, hs2, q⟩ := h
    have hs3 : (0 : Int) < same + 3 := by omega
    refine ⟨_, (@pss_cons _ _ _ _ _ (@ps_set _ _ (3) _ _ _ _ sc__law_near.nd (by exact rfl) (Or.inl rfl) (@pe_lst _ _ _ _ pa_nil) (by rfl) (by first | exact .inl rfl | exact .inr rfl | assumption)) (@pss_cons _ _ _ _ _ (@ps_set _ _ (4) _ _ _ _ sc__law_near.nd (by exact rfl) (Or.inl rfl) (pv 0) (by rfl) (by first | exact .inl rfl | exact .inr rfl | assumption)) (@pss_cons _ _ _ _ _ (@ps_for _ _ _ _ _ _ _ _ hX.own (by exact rfl) (@pi_listK _ K _ _ _ (pv 1) (by rfl)) (@pg_name _ _ (5) _ sc__law_near.nd (by exact rfl) (Or.inl rfl) (by first | exact .inl rfl | exact .inr rfl | assumption)) (@pss_one _ _ _ (@ps_for _ _ _ _ _ _ _ _ hX.own (by exact rfl) (@pi_listK _ K _ _ _ (pv 1) (by rfl)) (@pg_name _ _ (6) _ sc__law_near.nd (by exact rfl) (Or.inl rfl) (by first | exact .inl rfl | exact .inr rfl | assumption)) (@pss_one _ _ _ (@ps_if _ _ _ _ _ _ _ _ (@pt_cmpR _ _ _ _ _ _ _ _ op_ne (pv 5) (pv 6) (nomark _)) (@pss_cons _ _ _ _ _ (@ps_set _ _ (7) _ _ _ _ sc__law_near.nd (by exact rfl) (Or.inl rfl) (@pe_op _ _ _ _ _ _ _ _ op_mod (@pe_op _ _ _ _ _ _ _ _ op_fdiv (pv 4) pe_int) (@pe_op _ _ _ _ _ _ _ _ op_add (pv 2) pe_int)) (by rfl) (by first | exact .inl rfl | exact .inr rfl | assumption)) (@pss_cut _ _ _ _ _ (@ps_if _ _ _ _ _ _ _ _ (@pt_cmpR _ _ _ _ _ _ _ _ op_eq (@pe_op _ _ _ _ _ _ _ _ op_mod (pv 4) pe_int) pe_int (nomark _)) (@pss_cons _ _ _ _ _ (@ps_expr _ _ _ _ (@pe_bmK _ K _ _ _ _ _ _ _ _ _ _ _ PySem.F.plainAttrs_list PySem.F.slot_list_append PySem.F.type_list_append mt_append (pv 3) (@pa_c _ _ _ _ _ (@pe_tup _ _ _ _ _ (@pa_c _ _ _ _ _ (pv 5) (@pa_c _ _ _ _ _ (pv 6) (@pa_c _ _ _ _ _ (@pe_callB _ _ _ _ _ _ _ _ _ (call_min2 rfl) (by exact rfl) T.n_min PyProof.Rows.Boot.«min» (@pa_c _ _ _ _ _ (pv 7) (@pa_c _ _ _ _ _ pe_int pa_nil (by rfl)) (by rfl)) (by decide) (by decide) (by rfl) (by rfl)) pa_nil (by rfl)) (by rfl)) (by rfl))) pa_nil (by rfl)) (by rfl) (by rfl) (by rfl) (by rfl) (by rfl) (by rfl)) (by rfl)) (@pss_one _ _ _ (@ps_set _ _ (4) _ _ _ _ sc__law_near.nd (by exact rfl) (Or.inl rfl) (@pe_op _ _ _ _ _ _ _ _ op_fdiv (pv 4) (@pe_op _ _ _ _ _ _ _ _ op_add (pv 2) pe_int)) (by rfl) (by first | exact .inl rfl | exact .inr rfl | assumption)))) (@pss_one _ _ _ (@ps_if _ _ _ _ _ _ _ _ (@pt_cmpR _ _ _ _ _ _ _ _ op_eq (@pe_op _ _ _ _ _ _ _ _ op_mod (pv 4) pe_int) pe_int (nomark _)) (@pss_one _ _ _ (@ps_expr _ _ _ _ (@pe_bmK _ K _ _ _ _ _ _ _ _ _ _ _ PySem.F.plainAttrs_list PySem.F.slot_list_append PySem.F.type_list_append mt_append (pv 3) (@pa_c _ _ _ _ _ (@pe_tup _ _ _ _ _ (@pa_c _ _ _ _ _ (pv 5) (@pa_c _ _ _ _ _ (pv 6) (@pa_c _ _ _ _ _ pe_int pa_nil (by rfl)) (by rfl)) (by rfl))) pa_nil (by rfl)) (by rfl) (by rfl) (by rfl) (by rfl) (by rfl) (by rfl)) (by rfl))) pss_nil))) (@pss_one _ _ _ (@ps_set _ _ (4) _ _ _ _ sc__law_near.nd (by exact rfl) (Or.inl rfl) (@pe_op _ _ _ _ _ _ _ _ op_fdiv (pv 4) pe_int) (by rfl) (by first | exact .inl rfl | exact .inr rfl | assumption))))) pss_nil)) (by intro _; rfl))) (by intro _; rfl)) (@pss_one _ _ _ (@ps_ret _ _ _ _ (pv 3)))))), ?_⟩
    refine ⟨le_line (by simp), fun l hl => ?_⟩
    refine ⟨_, rfl, ?_⟩
    have hlb : b ≠ l := ne_of_none hb hl
    refine ⟨_, rfl, b, rfl, ⟨_, .of (Same.upd hl _ _ hb)⟩, ?_⟩
    refine for_list (xs := zs.map V.str) (fun i σ H' => (∃ (rest : Int) (u1 u2 u3 : Option V), σ = [some (.int cell), some (.ref b), some (.int same), some (.ref l), some (.int rest), u1, u2, u3]) ∧ Same H H' ∧ ∃ xs fs, H' l = some (.lst xs) ∧ Trips H' xs fs ∧ PairInv zs i 0 fs) ⟨⟨_, _, _, _, rfl⟩, Same.upd hl, [], [], upd_same, .nil, .nil⟩ ?_ ?_ ?_
    · rintro i σ H' _ ⟨_, s1, _⟩
      exact .of (s1 _ _ hb)
    · rintro i v σ H' hv ⟨⟨rest, u1, u2, u3, rfl⟩, s1, xs, fs, hl1, T1, P1⟩
      obtain ⟨x, hx, rfl⟩ : ∃ x, zs[i]? = some x ∧ v = .str x := word_at hv
      have hi : i < zs.length := (List.getElem?_eq_some_iff.mp hx).1
      refine ⟨_, rfl, b, rfl, ⟨_, .of (s1 _ _ hb)⟩, ?_⟩
      refine for_list (xs := zs.map V.str) (fun j σ H' => (∃ (rest : Int) (u2 u3 : Option V), σ = [some (.int cell), some (.ref b), some (.int same), some (.ref l), some (.int rest), some (.str x), u2, u3]) ∧ Same H H' ∧ ∃ xs fs, H' l = some (.lst xs) ∧ Trips H' xs fs ∧ PairInv zs i j fs) ⟨⟨_, _, _, rfl⟩, s1, xs, fs, hl1, T1, P1⟩ ?_ ?_ ?_
      · rintro j σ H' _ ⟨_, s1, _⟩
        exact .of (s1 _ _ hb)
      · clear s1 hl1 T1 P1 xs fs u1 u2 u3 rest H'
        rintro j v σ H' hv ⟨⟨rest, u2, u3, rfl⟩, s1, xs, fs, hl1, T1, P1⟩
        obtain ⟨y, hy, rfl⟩ : ∃ y, zs[j]? = some y ∧ v = .str y := word_at hv
        have hfew : xs.length < 1000 := by
          have h1 := P1.few
          have h2 : i * (zs.length - 1) ≤ 8 * 7 := Nat.mul_le_mul (by omega) (by omega)
          have h3 : j < zs.length := (List.getElem?_eq_some_iff.mp hy).1
          have h4 := T1.1
          omega
        refine ⟨_, rfl, _, rfl, rfl, _, rfl, ?_⟩
        refine ite2 (fun h => ?_) (fun h => ?_)
        rotate_left
        · exact ⟨⟨_, _, _, rfl⟩, s1, xs, fs, hl1, T1, P1.skip⟩
        have hne : ¬ x = y := by simpa using h
        refine ⟨_, rfl, _, _, rfl, rfl, ⟨by decide, by decide⟩, _, rfl, _, _, rfl, rfl, _, _, rfl, rfl, hs3, ?_⟩
        have p0 : 0 ≤ rest / 3 % (same + 3) := Int.emod_nonneg _ (by omega)
        have add : ∀ (t : Addr) (ht : H' t = none) (pr : Int), 0 ≤ pr → pr ≤ 999999 → Same H (upd (upd H' t (.tup [.str x, .str y, .int pr])) l (.lst (xs ++ [.ref t]))) ∧ ∃ xs2 fs2, upd (upd H' t (.tup [.str x, .str y, .int pr])) l (.lst (xs ++ [.ref t])) l = some (.lst xs2) ∧ Trips (upd (upd H' t (.tup [.str x, .str y, .int pr])) l (.lst (xs ++ [.ref t]))) xs2 fs2 ∧ PairInv zs i (j + 1) fs2 := fun t ht pr h0 h1 => by
          refine ⟨(s1.trans (Same.upd ht)).upd2 hl, _, fs ++ [(x, y, pr)], upd_same, ?_, P1.add hn hw hx hy hne h0 h1⟩
          have T2 : Trips (upd H' t (.tup (trip (x, y, pr)))) (xs ++ [.ref t]) (fs ++ [(x, y, pr)]) := (T1.same (Same.upd ht)).snoc upd_same
          exact T2.tups (Tups.lst (Same.upd ht _ _ hl1))
        refine ⟨fun σ H2 => (∃ (rest : Int) (u3 : Option V), σ = [some (.int cell), some (.ref b), some (.int same), some (.ref l), some (.int rest), some (.str x), some (.str y), u3]) ∧ Same H H2 ∧ ∃ xs fs, H2 l = some (.lst xs) ∧ Trips H2 xs fs ∧ PairInv zs i (j + 1) fs, ?_, ?_⟩
        · refine ⟨_, rfl, _, _, rfl, rfl, (show (0 : Int) < 3 by decide), rfl, _, rfl, ?_⟩
          refine ite2 (fun _ => ?_) (fun _ => ?_)
          · refine ⟨_, rfl, .inl ⟨rfl, _, .of hl1⟩, _, rfl, _, rfl, _, rfl, _, _, rfl, le_line (by simp), fun t ht => ⟨l, xs, _, rfl, rfl, Same.upd ht _ _ hl1, lt_line (by omega), ?_⟩⟩
            obtain ⟨a1, a2⟩ := add t ht (if 999999 < rest / 3 % (same + 3) then 999999 else rest / 3 % (same + 3)) (by split <;> omega) (by split <;> omega)
            exact ⟨_, rfl, _, rfl, _, _, rfl, rfl, _, _, rfl, rfl, ⟨hs3, by omega⟩, ⟨_, _, rfl⟩, a1, a2⟩
          · refine ⟨_, rfl, _, _, rfl, rfl, (show (0 : Int) < 9 by decide), rfl, _, rfl, ?_⟩
            refine ite2 (fun _ => ?_) (fun _ => ?_)
            · refine ⟨_, rfl, .inl ⟨rfl, _, .of hl1⟩, _, rfl, _, rfl, le_line (by simp), fun t ht => ⟨l, xs, _, rfl, rfl, Same.upd ht _ _ hl1, lt_line (by omega), ?_⟩⟩
              obtain ⟨a1, a2⟩ := add t ht 999999 (by decide) (by decide)
              exact ⟨⟨_, _, rfl⟩, a1, a2⟩
            · exact ⟨⟨_, _, rfl⟩, s1, xs, fs, hl1, T1, P1.skip⟩
        rintro σ H2 ⟨⟨rest2, u4, rfl⟩, s2, xs2, fs2, hl2, T2, P2⟩
        exact ⟨_, rfl, _, _, rfl, rfl, ⟨by decide, by decide⟩, ⟨_, _, _, rfl⟩, s2, xs2, fs2, hl2, T2, P2⟩
      · rintro σ H2 ⟨⟨rest2, u4, u5, rfl⟩, s2, xs2, fs2, hl2, T2, P2⟩
        rw [List.length_map] at P2
        exact ⟨⟨_, _, _, _, rfl⟩, s2, xs2, fs2, hl2, T2, P2.row hi⟩
    · rintro σ H2 ⟨⟨rest2, u4, u5, u6, rfl⟩, s2, xs2, fs2, hl2, T2, P2⟩
      rw [List.length_map] at P2
      exact ⟨_, rfl, q H2 l xs2 fs2 s2 hl hl2 T2 (P2.good hz8)⟩
theorem sc__law_case : FnScope ["_law_script", "_law_most", "_law_many", "_law_bank_here", "_law_one", "_law_other", "_law_first", "_law_second", "_law_numbers_here"] ["_law_script", "_law_most"] (defScope s__law_case) := ⟨rfl, rfl, rfl, by decide +kernel, rfl, by decide +kernel, by decide +kernel⟩
theorem ok__law_case {f : Addr} {fd : FuncData} (F : Fun K "_law_case" "_law_case" s__law_case f fd) (T : TB mg) (D__law_at : IsDef P w K mg base true 1 "_law_at" ["_law_script", "_law_k"] (sp_at K)) (D__law_bank : IsDef P w K mg base true 1 "_law_bank" ["_law_cell", "_law_other", "_law_many"] sp_bank) (D__law_book : IsDef P w K mg base true 2 "_law_book" ["_law_script", "_law_cell", "_law_spot", "_law_many", "_law_bank_here"] (sp_book K)) (D__law_quote : IsDef P w K mg base true 2 "_law_quote" ["_law_script", "_law_cell", "_law_spot", "_law_many", "_law_first", "_law_bank_here"] (sp_quote K)) (D__law_numbers : IsDef P w K mg base true 2 "_law_numbers" ["_law_script", "_law_spot"] (sp_numbers K)) (D__law_near : IsDef P w K mg base true 1 "_law_near" ["_law_cell", "_law_bank_here", "_law_same"] sp_near) : FnOk P w K mg base (CXF P w) true 3 f fd ["_law_script", "_law_most"] (sp_case K) := by
  refine F.okX sc__law_case (fun vs H Q E h => ?_) (fun cdv A outer s H vs Q E hr h hX => ?_)
  · obtain ⟨a, ns, most, rfl, _⟩ := h
    rfl
  · obtain ⟨a, ns, most, rfl, hS, hm0, hm1, q⟩ := h
    refine ⟨_, (@pss_cut _ _ _ _ _ (@ps_set _ _ (2) _ _ _ _ sc__law_case.nd (by exact rfl) (Or.inl rfl) (@pe_op _ _ _ _ _ _ _ _ op_add (@pe_op _ _ _ _ _ _ _ _ op_add pe_int (@pe_op _ _ _ _ _ _ _ _ op_mod (@pe_def _ _ _ _ _ _ _ _ _ _ _ _ D__law_at (hr.mono (by decide)) passF (@pa_c _ _ _ _ _ (pv 0) (@pa_c _ _ _ _ _ pe_int pa_nil (by rfl)) (by rfl)) (by rfl) (by decide) (by rfl) (by rfl)) pe_int)) (@pe_op _ _ _ _ _ _ _ _ op_mul (@pe_callTy _ _ _ _ _ _ _ _ _ call_int1 (by exact rfl) T.n_int PyProof.Rows.Boot.«int» (@pa_c _ _ _ _ _ (@pe_cmpR _ _ _ _ _ _ _ _ op_gt (pv 1) pe_int (nomark _)) pa_nil (by rfl)) (by decide) (by decide) (by rfl) (by rfl)) pe_int)) (by rfl) (by first | exact .inl rfl | exact .inr rfl | assumption)) (@pss_cut _ _ _ _ _ (@ps_set _ _ (3) _ _ _ _ sc__law_case.nd (by exact rfl) (Or.inl rfl) (@pe_def _ _ _ _ _ _ _ _ _ _ _ _ D__law_bank (hr.mono (by decide)) passF (@pa_c _ _ _ _ _ (@pe_def _ _ _ _ _ _ _ _ _ _ _ _ D__law_at (hr.mono (by decide)) passF (@pa_c _ _ _ _ _ (pv 0) (@pa_c _ _ _ _ _ pe_int pa_nil (by rfl)) (by rfl)) (by rfl) (by decide) (by rfl) (by rfl)) (@pa_c _ _ _ _ _ (@pe_def _ _ _ _ _ _ _ _ _ _ _ _ D__law_at (hr.mono (by decide)) passF (@pa_c _ _ _ _ _ (pv 0) (@pa_c _ _ _ _ _ pe_int pa_nil (by rfl)) (by rfl)) (by rfl) (by decide) (by rfl) (by rfl)) (@pa_c _ _ _ _ _ (pv 2) pa_nil (by rfl)) (by rfl)) (by rfl)) (by rfl) (by decide) (by rfl) (by rfl)) (by rfl) (by first | exact .inl rfl | exact .inr rfl | assumption)) (@pss_cut _ _ _ _ _ (@ps_set _ _ (4) _ _ _ _ sc__law_case.nd (by exact rfl) (Or.inl rfl) (@pe_op _ _ _ _ _ _ _ _ op_sub (pv 1) (@pe_op _ _ _ _ _ _ _ _ op_mod (@pe_def _ _ _ _ _ _ _ _ _ _ _ _ D__law_at (hr.mono (by decide)) passF (@pa_c _ _ _ _ _ (pv 0) (@pa_c _ _ _ _ _ pe_int pa_nil (by rfl)) (by rfl)) (by rfl) (by decide) (by rfl) (by rfl)) (@pe_op _ _ _ _ _ _ _ _ op_add (pv 1) pe_int))) (by rfl) (by first | exact .inl rfl | exact .inr rfl | assumption)) (@pss_cut _ _ _ _ _ (@ps_set _ _ (5) _ _ _ _ sc__law_case.nd (by exact rfl) (Or.inl rfl) (@pe_op _ _ _ _ _ _ _ _ op_sub (pv 1) (@pe_op _ _ _ _ _ _ _ _ op_mod (@pe_def _ _ _ _ _ _ _ _ _ _ _ _ D__law_at (hr.mono (by decide)) passF (@pa_c _ _ _ _ _ (pv 0) (@pa_c _ _ _ _ _ pe_int pa_nil (by rfl)) (by rfl)) (by rfl) (by decide) (by rfl) (by rfl)) (@pe_op _ _ _ _ _ _ _ _ op_add (pv 1) pe_int))) (by rfl) (by first | exact .inl rfl | exact .inr rfl | assumption)) (@pss_cut _ _ _ _ _ (@ps_set _ _ (6) _ _ _ _ sc__law_case.nd (by exact rfl) (Or.inl rfl) (@pe_def _ _ _ _ _ _ _ _ _ _ _ _ D__law_book (hr.mono (by decide)) passF (@pa_c _ _ _ _ _ (pv 0) (@pa_c _ _ _ _ _ (@pe_def _ _ _ _ _ _ _ _ _ _ _ _ D__law_at (hr.mono (by decide)) passF (@pa_c _ _ _ _ _ (pv 0) (@pa_c _ _ _ _ _ pe_int pa_nil (by rfl)) (by rfl)) (by rfl) (by decide) (by rfl) (by rfl)) (@pa_c _ _ _ _ _ pe_int (@pa_c _ _ _ _ _ (pv 4) (@pa_c _ _ _ _ _ (pv 3) pa_nil (by rfl)) (by rfl)) (by rfl)) (by rfl)) (by rfl)) (by rfl) (by decide) (by rfl) (by rfl)) (by rfl) (by first | exact .inl rfl | exact .inr rfl | assumption)) (@pss_cut _ _ _ _ _ (@ps_set _ _ (7) _ _ _ _ sc__law_case.nd (by exact rfl) (Or.inl rfl) (@pe_def _ _ _ _ _ _ _ _ _ _ _ _ D__law_quote (hr.mono (by decide)) passF (@pa_c _ _ _ _ _ (pv 0) (@pa_c _ _ _ _ _ (@pe_def _ _ _ _ _ _ _ _ _ _ _ _ D__law_at (hr.mono (by decide)) passF (@pa_c _ _ _ _ _ (pv 0) (@pa_c _ _ _ _ _ pe_int pa_nil (by rfl)) (by rfl)) (by rfl) (by decide) (by rfl) (by rfl)) (@pa_c _ _ _ _ _ pe_int (@pa_c _ _ _ _ _ (pv 5) (@pa_c _ _ _ _ _ (pv 6) (@pa_c _ _ _ _ _ (pv 3) pa_nil (by rfl)) (by rfl)) (by rfl)) (by rfl)) (by rfl)) (by rfl)) (by rfl) (by decide) (by rfl) (by rfl)) (by rfl) (by first | exact .inl rfl | exact .inr rfl | assumption)) (@pss_cut _ _ _ _ _ (@ps_set _ _ (8) _ _ _ _ sc__law_case.nd (by exact rfl) (Or.inl rfl) (@pe_def _ _ _ _ _ _ _ _ _ _ _ _ D__law_numbers (hr.mono (by decide)) passF (@pa_c _ _ _ _ _ (pv 0) (@pa_c _ _ _ _ _ pe_int pa_nil (by rfl)) (by rfl)) (by rfl) (by decide) (by rfl) (by rfl)) (by rfl) (by first | exact .inl rfl | exact .inr rfl | assumption)) (@pss_one _ _ _ (@ps_ret _ _ _ _ (@pe_lst _ _ _ _ (@pa_c _ _ _ _ _ (pv 6) (@pa_c _ _ _ _ _ (pv 7) (@pa_c _ _ _ _ _ (pv 8) (@pa_c _ _ _ _ _ (@pe_def _ _ _ _ _ _ _ _ _ _ _ _ D__law_near (hr.mono (by decide)) passF (@pa_c _ _ _ _ _ (@pe_def _ _ _ _ _ _ _ _ _ _ _ _ D__law_at (hr.mono (by decide)) passF (@pa_c _ _ _ _ _ (pv 0) (@pa_c _ _ _ _ _ pe_int pa_nil (by rfl)) (by rfl)) (by rfl) (by decide) (by rfl) (by rfl)) (@pa_c _ _ _ _ _ (@pe_slice _ _ _ _ _ _ _ _ _ _ (sl_listK K) (pv 3) po_none (@po_some _ _ _ pe_int)) (@pa_c _ _ _ _ _ (@pe_ix _ _ _ _ _ _ _ (ix_listK K) (pv 8) pe_int (fun _ _ => rfl)) pa_nil (by rfl)) (by rfl)) (by rfl)) (by rfl) (by decide) (by rfl) (by rfl)) pa_nil (by rfl)) (by rfl)) (by rfl)) (by rfl)))))))))))), ?_⟩
    refine ⟨fun σ H1 => ∃ many : Int, σ = [some (.ref a), some (.int most), some (.int many), none, none, none, none, none, none] ∧ H1 = H ∧ 1 ≤ many ∧ many ≤ 12, ?_, ?_⟩
    · refine ⟨_, rfl, a, ns, 2, rfl, hS, by decide, _, _, rfl, rfl, (show (0 : Int) < 5 by decide), _, _, rfl, rfl, _, rfl, _, _, rfl, rfl, .inr ⟨_, rfl, _, _, rfl, rfl, .inr ⟨by decide, by decide⟩, _, _, rfl, rfl, _, rfl, rfl, ?_, ?_⟩⟩
      · split <;> omega
      · split <;> omega
    rintro σ H ⟨many, rfl, rfl, hy0, hy1⟩
    refine ⟨fun σ H1 => ∃ (b : Addr) (zs : List Str), σ = [some (.ref a), some (.int most), some (.int many), some (.ref b), none, none, none, none, none] ∧ Same H H1 ∧ H1 b = some (.lst (zs.map V.str)) ∧ (1 ≤ zs.length ∧ zs.length ≤ 12) ∧ (∀ z ∈ zs, isW z = true) ∧ zs.Nodup, ?_, ?_⟩
    · exact ⟨_, rfl, a, ns, 0, rfl, hS, by decide, _, rfl, a, ns, 1, rfl, hS, by decide, _, rfl, _, _, many, rfl, by omega, by omega, fun H' b zs s1 hb hb1 hz hw hn => ⟨b, zs, rfl, s1, hb1, by omega, hw, hn⟩⟩
    rintro σ H1 ⟨b, zs, rfl, s1, hb1, hz, hw, hn⟩
    have hS1 := s1.seq hS
    refine ⟨fun σ H2 => ∃ one : Int, σ = [some (.ref a), some (.int most), some (.int many), some (.ref b), some (.int one), none, none, none, none] ∧ H2 = H1 ∧ 0 ≤ one ∧ one ≤ most, ?_, ?_⟩
    · have z0 : 0 ≤ cell ns 3 % (most + 1) := Int.emod_nonneg _ (by omega)
      have z1 : cell ns 3 % (most + 1) < most + 1 := Int.emod_lt_of_pos _ (by omega)
      exact ⟨_, rfl, _, rfl, a, ns, 3, rfl, hS1, by decide, _, rfl, _, _, rfl, rfl, _, _, rfl, rfl, (show (0 : Int) < most + 1 by omega), _, _, rfl, rfl, _, rfl, rfl, by omega, by omega⟩
    rintro σ H1 ⟨one, rfl, rfl, ho0, ho1⟩
    refine ⟨fun σ H2 => ∃ oth : Int, σ = [some (.ref a), some (.int most), some (.int many), some (.ref b), some (.int one), some (.int oth), none, none, none] ∧ H2 = H1 ∧ 0 ≤ oth ∧ oth ≤ most, ?_, ?_⟩
    · have z0 : 0 ≤ cell ns 4 % (most + 1) := Int.emod_nonneg _ (by omega)
      have z1 : cell ns 4 % (most + 1) < most + 1 := Int.emod_lt_of_pos _ (by omega)
      exact ⟨_, rfl, _, rfl, a, ns, 4, rfl, hS1, by decide, _, rfl, _, _, rfl, rfl, _, _, rfl, rfl, (show (0 : Int) < most + 1 by omega), _, _, rfl, rfl, _, rfl, rfl, by omega, by omega⟩
    rintro σ H1 ⟨oth, rfl, rfl, hq0, hq1⟩
    refine ⟨fun σ H2 => ∃ (x : Addr) (xs : List Str), σ = [some (.ref a), some (.int most), some (.int many), some (.ref b), some (.int one), some (.int oth), some (.ref x), none, none] ∧ Same H1 H2 ∧ H2 x = some (.lst (xs.map V.str)) ∧ xs.length = one.toNat ∧ ∀ w ∈ xs, w ∈ zs, ?_, ?_⟩
    · exact ⟨_, rfl, _, rfl, a, ns, 10, rfl, hS1, by decide, _, rfl, _, rfl, a, b, ns, zs, _, 16, one, rfl, hS1, hb1, ⟨hz.1, by omega⟩, by decide, ho0, by omega, fun H2 x xs s2 hx hx2 hl hin => ⟨x, xs, rfl, s2, hx2, hl, hin⟩⟩
    rintro σ H2 ⟨x, xs, rfl, s2, hx2, hxl, hxz⟩
    have s3 := s1.trans s2
    have hS2 := s2.seq hS1
    refine ⟨fun σ H3 => ∃ (y : Addr) (ys : List Str), σ = [some (.ref a), some (.int most), some (.int many), some (.ref b), some (.int one), some (.int oth), some (.ref x), some (.ref y), none] ∧ Same H2 H3 ∧ H3 y = some (.lst (ys.map V.str)) ∧ ys.length = oth.toNat, ?_, ?_⟩
    · exact ⟨_, rfl, _, rfl, a, ns, 11, rfl, hS2, by decide, _, rfl, _, rfl, _, rfl, a, b, x, ns, zs, xs, _, 17, oth, rfl, hS2, s2 _ _ hb1, hx2, ⟨hz.1, by omega⟩, by omega, hxz, by decide, hq0, by omega, fun H3 y ys s4 hy hy2 hl _ => ⟨y, ys, rfl, s4, hy2, hl⟩⟩
    rintro σ H3 ⟨y, ys, rfl, s4, hy3, hyl⟩
    have s5 := s3.trans s4
    have hS3 := s4.seq hS2
    refine ⟨fun σ H4 => ∃ (n : Addr) (sa ou iN le : Int), σ = [some (.ref a), some (.int most), some (.int many), some (.ref b), some (.int one), some (.int oth), some (.ref x), some (.ref y), some (.ref n)] ∧ Same H3 H4 ∧ H4 n = some (.lst [.int sa, .int ou, .int iN, .int le]) ∧ (1 ≤ sa ∧ sa ≤ 999999) ∧ (0 ≤ ou ∧ ou ≤ 999999) ∧ (0 ≤ iN ∧ iN ≤ 999999) ∧ (1 ≤ le ∧ le ≤ 999999), ?_, ?_⟩
    · exact ⟨_, rfl, a, ns, 5, rfl, hS3, by decide, fun H4 D sa ou iN le s6 hD hD4 h1 h2 h3 h4 => ⟨D, sa, ou, iN, le, rfl, s6, hD4, h1, h2, h3, h4⟩⟩
    rintro σ H4 ⟨n, sa, ou, iN, le, rfl, s6, hn4, h1, h2, h3, h4⟩
    have s7 := s5.trans s6
    have hS4 := s6.seq hS3
    have hb4 : H4 b = some (.lst (zs.map V.str)) := s6 _ _ (s4 _ _ (s2 _ _ hb1))
    refine ⟨_, rfl, _, rfl, _, rfl, _, rfl, a, ns, 9, rfl, hS4, by decide, _, rfl, _, rfl, b, _, rfl, .of hb4, fun b5 hb5 => ?_⟩
    have e5 : cutV (zs.map V.str) none (some 5) = (zs.take 5).map V.str := by
      have : HT.sIx (zs.map V.str).length (zs.map V.str).length (some 5) = min 5 zs.length := by
        rw [List.length_map]
        simp only [HT.sIx]
        split <;> omega
      have e0 : HT.sIx (zs.map V.str).length 0 none = 0 := by simp [HT.sIx]
      unfold cutV
      rw [this, e0, List.drop_zero, Nat.sub_zero, ← List.map_take]
      congr 1
      apply List.ext_getElem?
      intro i
      rw [List.getElem?_take, List.getElem?_take]
      by_cases hi : i < zs.length
      · by_cases h5 : i < 5
        · rw [if_pos (by omega), if_pos h5]
        · rw [if_neg (by omega), if_neg h5]
      · simp [List.getElem?_eq_none (by omega : zs.length ≤ i)]
    rw [e5]
    have s8 : Same H4 (upd H4 b5 (.lst ((zs.take 5).map V.str))) := Same.upd hb5
    have hn8 := s8 _ _ hn4
    refine ⟨_, rfl, n, _, 0, _, rfl, rfl, .of hn8, atI_nat (j := 0) rfl, _, sa, b5, zs.take 5, rfl, upd_same, by simp; omega, fun z hz => hw z (List.mem_of_mem_take hz), hn.sublist (List.take_sublist ..), h1.1, h1.2, fun H6 l us fs s9 hl hl6 T6 g6 => ?_⟩
    have sA := (s7.trans s8).trans s9
    refine ⟨le_line (by simp), fun r hr => ?_⟩
    have sB := Same.upd (o := .lst [.ref x, .ref y, .ref n, .ref l]) hr
    have sC := s9.trans sB
    refine q _ r ⟨xs, ys, sa, ou, iN, le, fs⟩ x y n l us (sA.trans sB) (sA.free hr) ⟨upd_same, ?_, ?_, ?_, sB _ _ hl6, T6.same sB⟩ ⟨by show xs.length ≤ _; omega, by show ys.length ≤ _; omega, g6, h1, h2, h3, h4⟩
    · exact sC _ _ (s8 _ _ (s6 _ _ (s4 _ _ hx2)))
    · exact sC _ _ (s8 _ _ (s6 _ _ hy3))
    · exact sC _ _ (s8 _ _ hn4)
theorem sc__law_pair : FnScope ["_law_x", "_law_y", "_law_same", "_law_near_here", "_law_old", "_law_new", "_law_price"] ["_law_x", "_law_y", "_law_same", "_law_near_here"] (defScope s__law_pair) := ⟨rfl, rfl, rfl, by decide +kernel, rfl, by decide +kernel, by decide +kernel⟩
theorem ok__law_pair {f : Addr} {fd : FuncData} (F : Fun K "_law_pair" "_law_pair" s__law_pair f fd) (T : TB mg) : FnOk P w K mg base (CXF P w) true 1 f fd ["_law_x", "_law_y", "_law_same", "_law_near_here"] sp_lpair := by
  refine F.okX sc__law_pair (fun vs H Q E h => ?_) (fun cdv A outer s H vs Q E hr h hX => ?_)
  · obtain ⟨x, y, same, l, xs, fs, rfl, _⟩ := h
    rfl
  · obtain ⟨x, y, same, l, xs, fs, rfl, hl, T1, q⟩ := h
    refine ⟨_, (@pss_cons _ _ _ _ _ (@ps_if _ _ _ _ _ _ _ _ (@pt_cmpR _ _ _ _ _ _ _ _ op_eq (pv 0) (pv 1) (nomark _)) (@pss_one _ _ _ (@ps_ret _ _ _ _ (pv 2))) pss_nil) (@pss_cons _ _ _ _ _ (@ps_for _ _ _ _ _ _ _ _ hX.own (by exact rfl) (@pi_listK _ K _ _ _ (pv 3) (by rfl)) (@pg_tupK _ K _ _ _ (3) _ (by exact rfl) (@pgs_cons _ _ _ _ _ (@pg_name _ _ (4) _ sc__law_pair.nd (by exact rfl) (Or.inl rfl) (by first | exact .inl rfl | exact .inr rfl | assumption)) (@pgs_cons _ _ _ _ _ (@pg_name _ _ (5) _ sc__law_pair.nd (by exact rfl) (Or.inl rfl) (by first | exact .inl rfl | exact .inr rfl | assumption)) (@pgs_cons _ _ _ _ _ (@pg_name _ _ (6) _ sc__law_pair.nd (by exact rfl) (Or.inl rfl) (by first | exact .inl rfl | exact .inr rfl | assumption)) pgs_nil (by rfl)) (by rfl)) (by rfl)) (by rfl) (by rfl) (by rfl)) (@pss_one _ _ _ (@ps_if _ _ _ _ _ _ _ _ (@PW.pt _ _ _ (@pw_and _ _ _ _ _ _ _ (@pt_cmpR _ _ _ _ _ _ _ _ op_eq (pv 4) (pv 0) (nomark _)) (@pw_and1 _ _ _ _ (@pt_cmpR _ _ _ _ _ _ _ _ op_eq (pv 5) (pv 1) (nomark _))))) (@pss_one _ _ _ (@ps_ret _ _ _ _ (@pe_op _ _ _ _ _ _ _ _ op_sub (pv 2) (pv 6)))) pss_nil)) (by intro _; rfl)) (@pss_one _ _ _ (@ps_ret _ _ _ _ pe_non)))), ?_⟩
    refine ⟨_, rfl, _, rfl, rfl, _, rfl, ?_⟩
    refine ite2 (fun h => ?_) (fun h => ?_)
    · have h : x = y := by simpa using h
      rw [show pairW same fs x y = some same by simp [pairW, h]] at q
      exact ⟨_, rfl, q⟩
    have h : ¬ x = y := by simpa using h
    refine ⟨_, rfl, l, rfl, ⟨_, .of hl⟩, ?_⟩
    refine for_list (xs := xs) (fun i σ H' => (∃ u1 u2 u3, σ = [some (.str x), some (.str y), some (.int same), some (.ref l), u1, u2, u3]) ∧ H' = H ∧ ∀ f ∈ fs.take i, ¬ (f.1 = x ∧ f.2.1 = y)) ⟨⟨_, _, _, rfl⟩, rfl, by simp⟩ ?_ ?_ ?_
    · rintro i σ H' _ ⟨_, rfl, _⟩
      exact .of hl
    · rintro i v σ H' hv ⟨⟨u1, u2, u3, rfl⟩, rfl, hno⟩
      have hi : i < fs.length := by rw [← T1.1]; exact (List.getElem?_eq_some_iff.mp hv).1
      have hf : fs[i]? = some fs[i] := by simp [hi]
      generalize fs[i] = f0 at hf
      obtain ⟨t, ht1, ht2⟩ := T1.2 i f0 hf
      rw [hv] at ht1
      cases ht1
      obtain ⟨x0, y0, p0⟩ := f0
      refine ⟨t, _, rfl, .of ht2, rfl, _, _, rfl, _, _, rfl, _, _, rfl, rfl, ?_⟩
      have nxt : ¬ (x0 = x ∧ y0 = y) → ∀ f ∈ fs.take (i + 1), ¬ (f.1 = x ∧ f.2.1 = y) := fun hne f hfm => by
        rw [List.take_succ, hf] at hfm
        rcases List.mem_append.mp hfm with h | h
        · exact hno f h
        · have h : f = (x0, y0, p0) := by simpa using h
          rw [h]; exact hne
      refine ⟨_, rfl, _, rfl, rfl, _, rfl, ?_⟩
      refine ite2 (fun hh => ?_) (fun hh => ?_)
      · have ha1 : x0 = x := by simpa using hh
        refine ⟨_, rfl, _, rfl, rfl, _, rfl, ?_⟩
        refine ite2 (fun hh => ?_) (fun hh => ?_)
        · have hb1 : y0 = y := by simpa using hh
          have e : priceOf fs x y = some p0 := first_price hf hno ⟨ha1, hb1⟩
          rw [show pairW same fs x y = some (same - p0) by simp [pairW, h, e]] at q
          exact ⟨_, rfl, _, rfl, _, _, rfl, rfl, q⟩
        · have hb1 : ¬ y0 = y := by simpa using hh
          exact ⟨⟨_, _, _, rfl⟩, rfl, nxt fun z => hb1 z.2⟩
      · have ha1 : ¬ x0 = x := by simpa using hh
        refine iteF ?_
        exact ⟨⟨_, _, _, rfl⟩, rfl, nxt fun z => ha1 z.1⟩
    · rintro σ H' ⟨⟨u1, u2, u3, rfl⟩, rfl, hno⟩
      rw [T1.1, List.take_length] at hno
      have e : priceOf fs x y = none := no_price hno
      rw [show pairW same fs x y = none by simp [pairW, h, e]] at q
      exact q
theorem sc__law_worth : FnScope ["_law_case_here", "_law_way", "_law_total", "_law_k", "_law_i", "_law_j", "_law_gain"] ["_law_case_here", "_law_way"] (defScope s__law_worth) := ⟨rfl, rfl, rfl, by decide +kernel, rfl, by decide +kernel, by decide +kernel⟩
theorem ok__law_worth {f : Addr} {fd : FuncData} (F : Fun K "_law_worth" "_law_worth" s__law_worth f fd) (T : TB mg) (D__law_pair : IsDef P w K mg base true 1 "_law_pair" ["_law_x", "_law_y", "_law_same", "_law_near_here"] sp_lpair) : FnOk P w K mg base (CXF P w) true 2 f fd ["_law_case_here", "_law_way"] sp_lworth := by
  refine F.okX sc__law_worth (fun vs H Q E h => ?_) (fun cdv A outer s H vs Q E hr h hX => ?_)
  · obtain ⟨a, w, c, f, g, m, l, us, ws, ps, rfl, _⟩ := h
    rfl
  · obtain ⟨a, w, c, x1, x2, m, l, us, ws, ps, rfl, C1, no, hw, P1, hlen, hway, q⟩ := h
    obtain ⟨hne, hgo⟩ := isWay_good hway
    have hpos : 0 < ps.length := List.length_pos_iff.mpr hne
    have hul := P1.1
    have hca := C1.ca
    have hnu := C1.nu
    have nO := no.out
    have nI := no.into
    refine ⟨_, (@pss_cons _ _ _ _ _ (@ps_set _ _ (2) _ _ _ _ sc__law_worth.nd (by exact rfl) (Or.inl rfl) pe_int (by rfl) (by first | exact .inl rfl | exact .inr rfl | assumption)) (@pss_cons _ _ _ _ _ (@ps_for _ _ _ _ _ _ _ _ hX.own (by exact rfl) (@pi_range1 _ _ _ _ _ _ (by exact rfl) T.n_range (@pa_c _ _ _ _ _ (@pe_callB _ _ _ _ _ _ _ _ _ (call_len_seqK K) (by exact rfl) T.n_len PyProof.Rows.Boot.«len» (@pa_c _ _ _ _ _ (pv 1) pa_nil (by rfl)) (by decide) (by decide) (by rfl) (by rfl)) pa_nil (by rfl)) (by rfl)) (@pg_name _ _ (3) _ sc__law_worth.nd (by exact rfl) (Or.inl rfl) (by first | exact .inl rfl | exact .inr rfl | assumption)) (@pss_cons _ _ _ _ _ (@ps_asg _ _ _ _ _ _ (@pe_ix _ _ _ _ _ _ _ (ix_listK K) (pv 1) (pv 3) (fun _ _ => rfl)) (@pg_tupK _ K _ _ _ (2) _ (by exact rfl) (@pgs_cons _ _ _ _ _ (@pg_name _ _ (4) _ sc__law_worth.nd (by exact rfl) (Or.inl rfl) (by first | exact .inl rfl | exact .inr rfl | assumption)) (@pgs_cons _ _ _ _ _ (@pg_name _ _ (5) _ sc__law_worth.nd (by exact rfl) (Or.inl rfl) (by first | exact .inl rfl | exact .inr rfl | assumption)) pgs_nil (by rfl)) (by rfl)) (by rfl) (by rfl) (by rfl)) (by rfl) (by rfl) (by rfl)) (@pss_cons _ _ _ _ _ (@ps_set _ _ (6) _ _ _ _ sc__law_worth.nd (by exact rfl) (Or.inl rfl) (@pe_def _ _ _ _ _ _ _ _ _ _ _ _ D__law_pair (hr.mono (by decide)) passF (@pa_c _ _ _ _ _ (@pe_ix _ _ _ _ _ _ _ (ix_listK K) (@pe_ix _ _ _ _ _ _ _ (ix_listK K) (pv 0) pe_int (fun _ _ => rfl)) (pv 4) (fun _ _ => rfl)) (@pa_c _ _ _ _ _ (@pe_ix _ _ _ _ _ _ _ (ix_listK K) (@pe_ix _ _ _ _ _ _ _ (ix_listK K) (pv 0) pe_int (fun _ _ => rfl)) (pv 5) (fun _ _ => rfl)) (@pa_c _ _ _ _ _ (@pe_ix _ _ _ _ _ _ _ (ix_listK K) (@pe_ix _ _ _ _ _ _ _ (ix_listK K) (pv 0) pe_int (fun _ _ => rfl)) pe_int (fun _ _ => rfl)) (@pa_c _ _ _ _ _ (@pe_ix _ _ _ _ _ _ _ (ix_listK K) (pv 0) pe_int (fun _ _ => rfl)) pa_nil (by rfl)) (by rfl)) (by rfl)) (by rfl)) (by rfl) (by decide) (by rfl) (by rfl)) (by rfl) (by first | exact .inl rfl | exact .inr rfl | assumption)) (@pss_cons _ _ _ _ _ (@ps_if _ _ _ _ _ _ _ _ (@pt_cmp _ _ _ _ _ _ (@pc_isN _ _ _ _ _ (pv 6)) (by first | exact nobehind _ (by decide) (by decide) | rfl)) (@pss_one _ _ _ (@ps_ret _ _ _ _ pe_non)) pss_nil) (@pss_cons _ _ _ _ _ (@ps_set _ _ (2) _ _ _ _ sc__law_worth.nd (by exact rfl) (Or.inl rfl) (@pe_op _ _ _ _ _ _ _ _ op_add (pv 2) (pv 6)) (by rfl) (by first | exact .inl rfl | exact .inr rfl | assumption)) (@pss_one _ _ _ (@ps_if _ _ _ _ _ _ _ _ (@pt_cmpR _ _ _ _ _ _ _ _ op_gt (pv 3) pe_int (nomark _)) (@pss_cons _ _ _ _ _ (@ps_set _ _ (2) _ _ _ _ sc__law_worth.nd (by exact rfl) (Or.inl rfl) (@pe_op _ _ _ _ _ _ _ _ op_sub (pv 2) (@pe_op _ _ _ _ _ _ _ _ op_mul (@pe_ix _ _ _ _ _ _ _ (ix_listK K) (@pe_ix _ _ _ _ _ _ _ (ix_listK K) (pv 0) pe_int (fun _ _ => rfl)) pe_int (fun _ _ => rfl)) (@pe_op _ _ _ _ _ _ _ _ op_sub (@pe_op _ _ _ _ _ _ _ _ op_sub (pv 4) (@pe_ix _ _ _ _ _ _ _ (ix_tupK K) (@pe_ix _ _ _ _ _ _ _ (ix_listK K) (pv 1) (@pe_op _ _ _ _ _ _ _ _ op_sub (pv 3) pe_int) (fun _ _ => rfl)) pe_int (fun _ _ => rfl))) pe_int))) (by rfl) (by first | exact .inl rfl | exact .inr rfl | assumption)) (@pss_one _ _ _ (@ps_set _ _ (2) _ _ _ _ sc__law_worth.nd (by exact rfl) (Or.inl rfl) (@pe_op _ _ _ _ _ _ _ _ op_sub (pv 2) (@pe_op _ _ _ _ _ _ _ _ op_mul (@pe_ix _ _ _ _ _ _ _ (ix_listK K) (@pe_ix _ _ _ _ _ _ _ (ix_listK K) (pv 0) pe_int (fun _ _ => rfl)) pe_int (fun _ _ => rfl)) (@pe_op _ _ _ _ _ _ _ _ op_sub (@pe_op _ _ _ _ _ _ _ _ op_sub (pv 5) (@pe_ix _ _ _ _ _ _ _ (ix_tupK K) (@pe_ix _ _ _ _ _ _ _ (ix_listK K) (pv 1) (@pe_op _ _ _ _ _ _ _ _ op_sub (pv 3) pe_int) (fun _ _ => rfl)) pe_int (fun _ _ => rfl))) pe_int))) (by rfl) (by first | exact .inl rfl | exact .inr rfl | assumption)))) pss_nil)))))) (by intro _; rfl)) (@pss_one _ _ _ (@ps_ret _ _ _ _ (pv 2))))), ?_⟩
    refine ⟨_, rfl, w, _, rfl, .inl (.of hw), (ws.length : Int), rfl, by omega, by omega, ?_⟩
    refine for_range (fun i σ H' => (∃ (u1 u2 u3 u4 : Option V), σ = [some (.ref a), some (.ref w), some (.int (if i = 0 then 0 else worthAt c ps (i - 1))), u1, u2, u3, u4]) ∧ H' = H) ⟨⟨_, _, _, _, rfl⟩, rfl⟩ ?_ ?_
    · rintro i σ H' hi ⟨⟨u1, u2, u3, u4, rfl⟩, e0⟩
      subst e0
      have hi : i < ps.length := by omega
      obtain ⟨tt, ht1, ht2⟩ := P1.atN hi
      obtain ⟨wo, hwo⟩ := good_pw (hgo i hi)
      obtain ⟨b1, b2⟩ := c.pw_in hwo
      obtain ⟨x, hx1, hx2⟩ := wd_in b1.1 b1.2
      obtain ⟨y, hy1, hy2⟩ := wd_in b2.1 b2.2
      have ep : c.pw (pr ps i) = pairW c.same c.fs x y := Case.pw_of hx1 hy1
      refine ⟨_, rfl, _, rfl, w, _, _, _, rfl, rfl, .of hw, at0 ht1, tt, _, rfl, .of ht2, rfl, _, _, rfl, _, _, rfl, rfl, ?_⟩
      refine ⟨_, rfl, a, _, 0, _, rfl, rfl, .of hca, atI_nat (j := 0) rfl, _, rfl, x1, _, _, _, rfl, rfl, .of C1.fi, hx2, _, rfl, a, _, 1, _, rfl, rfl, .of hca, atI_nat (j := 1) rfl, _, rfl, x2, _, _, _, rfl, rfl, .of C1.se, hy2, _, rfl, a, _, 2, _, rfl, rfl, .of hca, atI_nat (j := 2) rfl, m, _, 0, _, rfl, rfl, .of hnu, atI_nat (j := 0) rfl, _, rfl, a, _, 3, _, rfl, rfl, .of hca, atI_nat (j := 3) rfl, x, y, c.same, l, us, c.fs, rfl, C1.ne, C1.tr, ?_⟩
      rw [← ep, hwo]
      refine ⟨_, rfl, _, rfl, ?_⟩
      refine ite2 (fun hh => absurd hh (by simp [optV])) (fun _ => ?_)
      refine ⟨_, rfl, _, rfl, _, _, rfl, rfl, ?_⟩
      refine ⟨_, rfl, _, _, rfl, rfl, _, rfl, ?_⟩
      refine ite2 (fun h2 => ?_) (fun h2 => ?_)
      · have h2 : 0 < i := by
          have : (0 : Int) < 0 + (i : Int) := by simpa using h2
          omega
        obtain ⟨j, rfl⟩ : ∃ j, i = j + 1 := ⟨i - 1, by omega⟩
        have e1 : ((0 + ((j + 1 : Nat) : Int)) - 1) = ((j : Nat) : Int) := by omega
        obtain ⟨t2, hq1, hq2⟩ := P1.atN (show j < ps.length by omega)
        have hat : atI ws ((0 + ((j + 1 : Nat) : Int)) - 1) = some (.ref t2) := by rw [e1]; exact atI_nat hq1
        refine ⟨_, rfl, _, rfl, a, _, 2, _, rfl, rfl, .of hca, atI_nat (j := 2) rfl, m, _, 1, _, rfl, rfl, .of hnu, atI_nat (j := 1) rfl, _, rfl, _, rfl, _, rfl, _, _, rfl, rfl, w, _, _, _, rfl, rfl, .of hw, hat, t2, _, 0, _, rfl, rfl, .of hq2, atI_nat (j := 0) rfl, _, _, rfl, rfl, _, _, rfl, rfl, _, _, rfl, rfl, .inl ⟨by omega, by omega⟩, _, _, rfl, rfl, ?_⟩
        refine ⟨_, rfl, _, rfl, a, _, 2, _, rfl, rfl, .of hca, atI_nat (j := 2) rfl, m, _, 2, _, rfl, rfl, .of hnu, atI_nat (j := 2) rfl, _, rfl, _, rfl, _, rfl, _, _, rfl, rfl, w, _, _, _, rfl, rfl, .of hw, hat, t2, _, 1, _, rfl, rfl, .of hq2, atI_nat (j := 1) rfl, _, _, rfl, rfl, _, _, rfl, rfl, _, _, rfl, rfl, .inl ⟨by omega, by omega⟩, _, _, rfl, rfl, ⟨some (.int (0 + ((j + 1 : Nat) : Int))), some (.int (pr ps (j + 1)).1), some (.int (pr ps (j + 1)).2), some (.int wo), ?_⟩, rfl⟩
        have : worthAt c ps (j + 1) = worthAt c ps j + wo - c.out * ((pr ps (j + 1)).1 - (pr ps j).1 - 1) - c.into * ((pr ps (j + 1)).2 - (pr ps j).2 - 1) := by
          simp only [worthAt, hwo, Case.gap, Option.getD_some]
          omega
        simp only [Nat.add_sub_cancel, Nat.succ_ne_zero, if_false, this]
        rfl
      · have h2 : i = 0 := by
          have : ¬ (0 : Int) < 0 + (i : Int) := by simpa using h2
          omega
        subst h2
        refine ⟨⟨some (.int (0 + ((0 : Nat) : Int))), some (.int (pr ps 0).1), some (.int (pr ps 0).2), some (.int wo), ?_⟩, rfl⟩
        have : worthAt c ps 0 = 0 + wo := by simp [worthAt, hwo]
        simp only [Nat.zero_add, Nat.sub_self, Nat.one_ne_zero, if_false, this]
        rfl
    · rintro σ H' ⟨⟨u1, u2, u3, u4, rfl⟩, rfl⟩
      have e : ((ws.length : Nat) : Int).toNat = ps.length := by omega
      rw [e, if_neg (by omega)]
      exact ⟨_, rfl, q⟩
theorem sc__law_ways : FnScope ["_law_case_here", "_law_shut", "_law_found", "_law_i", "_law_j", "_law_gain", "_law_fresh", "_law_way"] ["_law_case_here", "_law_shut"] (defScope s__law_ways) := ⟨rfl, rfl, rfl, by decide +kernel, rfl, by decide +kernel, by decide +kernel⟩
theorem ok__law_ways {f : Addr} {fd : FuncData} (F : Fun K "_law_ways" "_law_ways" s__law_ways f fd) (T : TB mg) (D__law_pair : IsDef P w K mg base true 1 "_law_pair" ["_law_x", "_law_y", "_law_same", "_law_near_here"] sp_lpair) : FnOk P w K mg base (CXF P w) true 2 f fd ["_law_case_here", "_law_shut"] sp_lways := by
  refine F.okX sc__law_ways (fun vs H Q E h => ?_) (fun cdv A outer s H vs Q E hr h hX => ?_)
  · obtain ⟨a, s0, c, f, g, m, l, us, ss, shut, rfl, _⟩ := h
    rfl
  · obtain ⟨a, s0, c, x1, x2, m, l, us, ss, shut, rfl, C1, hs0, PS, hsl, hx5, hy5, q⟩ := h
    have hu := hr.units
    have hu : (A.deeper (PyProof.Rows.envOfC "_law_ways" (defScope s__law_ways) s.heap.objs.size f cdv)).units + 1 < cLine := by omega
    have lx : (c.xs.map V.str).length = c.xs.length := List.length_map ..
    have ly : (c.ys.map V.str).length = c.ys.length := List.length_map ..
    refine ⟨_, (@pss_cons _ _ _ _ _ (@ps_set _ _ (2) _ _ _ _ sc__law_ways.nd (by exact rfl) (Or.inl rfl) (@pe_lst _ _ _ _ pa_nil) (by rfl) (by first | exact .inl rfl | exact .inr rfl | assumption)) (@pss_cons _ _ _ _ _ (@ps_for _ _ _ _ _ _ _ _ hX.own (by exact rfl) (@pi_range1 _ _ _ _ _ _ (by exact rfl) T.n_range (@pa_c _ _ _ _ _ (@pe_callB _ _ _ _ _ _ _ _ _ (call_len_seqK K) (by exact rfl) T.n_len PyProof.Rows.Boot.«len» (@pa_c _ _ _ _ _ (@pe_ix _ _ _ _ _ _ _ (ix_listK K) (pv 0) pe_int (fun _ _ => rfl)) pa_nil (by rfl)) (by decide) (by decide) (by rfl) (by rfl)) pa_nil (by rfl)) (by rfl)) (@pg_name _ _ (3) _ sc__law_ways.nd (by exact rfl) (Or.inl rfl) (by first | exact .inl rfl | exact .inr rfl | assumption)) (@pss_one _ _ _ (@ps_for _ _ _ _ _ _ _ _ hX.own (by exact rfl) (@pi_range1 _ _ _ _ _ _ (by exact rfl) T.n_range (@pa_c _ _ _ _ _ (@pe_callB _ _ _ _ _ _ _ _ _ (call_len_seqK K) (by exact rfl) T.n_len PyProof.Rows.Boot.«len» (@pa_c _ _ _ _ _ (@pe_ix _ _ _ _ _ _ _ (ix_listK K) (pv 0) pe_int (fun _ _ => rfl)) pa_nil (by rfl)) (by decide) (by decide) (by rfl) (by rfl)) pa_nil (by rfl)) (by rfl)) (@pg_name _ _ (4) _ sc__law_ways.nd (by exact rfl) (Or.inl rfl) (by first | exact .inl rfl | exact .inr rfl | assumption)) (@pss_cons _ _ _ _ _ (@ps_set _ _ (5) _ _ _ _ sc__law_ways.nd (by exact rfl) (Or.inl rfl) (@pe_def _ _ _ _ _ _ _ _ _ _ _ _ D__law_pair (hr.mono (by decide)) passF (@pa_c _ _ _ _ _ (@pe_ix _ _ _ _ _ _ _ (ix_listK K) (@pe_ix _ _ _ _ _ _ _ (ix_listK K) (pv 0) pe_int (fun _ _ => rfl)) (pv 3) (fun _ _ => rfl)) (@pa_c _ _ _ _ _ (@pe_ix _ _ _ _ _ _ _ (ix_listK K) (@pe_ix _ _ _ _ _ _ _ (ix_listK K) (pv 0) pe_int (fun _ _ => rfl)) (pv 4) (fun _ _ => rfl)) (@pa_c _ _ _ _ _ (@pe_ix _ _ _ _ _ _ _ (ix_listK K) (@pe_ix _ _ _ _ _ _ _ (ix_listK K) (pv 0) pe_int (fun _ _ => rfl)) pe_int (fun _ _ => rfl)) (@pa_c _ _ _ _ _ (@pe_ix _ _ _ _ _ _ _ (ix_listK K) (pv 0) pe_int (fun _ _ => rfl)) pa_nil (by rfl)) (by rfl)) (by rfl)) (by rfl)) (by rfl) (by decide) (by rfl) (by rfl)) (by rfl) (by first | exact .inl rfl | exact .inr rfl | assumption)) (@pss_one _ _ _ (@ps_if _ _ _ _ _ _ _ _ (@PW.pt _ _ _ (@pw_and _ _ _ _ _ _ _ (@pt_cmp _ _ _ _ _ _ (@pc_notN _ _ _ _ _ (pv 5)) (by first | exact nobehind _ (by decide) (by decide) | rfl)) (@pw_and1 _ _ _ _ (@pt_cmpR _ _ _ _ _ _ _ _ (op_notIn_tupsK K hu) (@pe_tup _ _ _ _ _ (@pa_c _ _ _ _ _ (pv 3) (@pa_c _ _ _ _ _ (pv 4) pa_nil (by rfl)) (by rfl))) (pv 1) (by with_unfolding_all rfl))))) (@pss_cons _ _ _ _ _ (@ps_set _ _ (6) _ _ _ _ sc__law_ways.nd (by exact rfl) (Or.inl rfl) (@pe_lst _ _ _ _ (@pa_c _ _ _ _ _ (@pe_lst _ _ _ _ (@pa_c _ _ _ _ _ (@pe_tup _ _ _ _ _ (@pa_c _ _ _ _ _ (pv 3) (@pa_c _ _ _ _ _ (pv 4) pa_nil (by rfl)) (by rfl))) pa_nil (by rfl))) pa_nil (by rfl))) (by rfl) (by first | exact .inl rfl | exact .inr rfl | assumption)) (@pss_cons _ _ _ _ _ (@ps_for _ _ _ _ _ _ _ _ hX.own (by exact rfl) (@pi_listK _ K _ _ _ (pv 2) (by rfl)) (@pg_name _ _ (7) _ sc__law_ways.nd (by exact rfl) (Or.inl rfl) (by first | exact .inl rfl | exact .inr rfl | assumption)) (@pss_one _ _ _ (@ps_if _ _ _ _ _ _ _ _ (@PW.pt _ _ _ (@pw_and _ _ _ _ _ _ _ (@pt_cmpR _ _ _ _ _ _ _ _ op_lt (@pe_ix _ _ _ _ _ _ _ (ix_tupK K) (@pe_ix _ _ _ _ _ _ _ (ix_listK K) (pv 7) (@pe_un _ _ _ _ _ _ un_neg pe_int) (fun _ _ => rfl)) pe_int (fun _ _ => rfl)) (pv 3) (nomark _)) (@pw_and1 _ _ _ _ (@pt_cmpR _ _ _ _ _ _ _ _ op_lt (@pe_ix _ _ _ _ _ _ _ (ix_tupK K) (@pe_ix _ _ _ _ _ _ _ (ix_listK K) (pv 7) (@pe_un _ _ _ _ _ _ un_neg pe_int) (fun _ _ => rfl)) pe_int (fun _ _ => rfl)) (pv 4) (nomark _))))) (@pss_one _ _ _ (@ps_expr _ _ _ _ (@pe_bmK _ K _ _ _ _ _ _ _ _ _ _ _ PySem.F.plainAttrs_list PySem.F.slot_list_append PySem.F.type_list_append mt_append (pv 6) (@pa_c _ _ _ _ _ (@pe_op _ _ _ _ _ _ _ _ op_cat (pv 7) (@pe_lst _ _ _ _ (@pa_c _ _ _ _ _ (@pe_tup _ _ _ _ _ (@pa_c _ _ _ _ _ (pv 3) (@pa_c _ _ _ _ _ (pv 4) pa_nil (by rfl)) (by rfl))) pa_nil (by rfl)))) pa_nil (by rfl)) (by rfl) (by rfl) (by rfl) (by rfl) (by rfl) (by rfl)) (by rfl))) pss_nil)) (by intro _; rfl)) (@pss_one _ _ _ (@ps_set _ _ (2) _ _ _ _ sc__law_ways.nd (by exact rfl) (Or.inl rfl) (@pe_op _ _ _ _ _ _ _ _ op_cat (pv 2) (pv 6)) (by rfl) (by first | exact .inl rfl | exact .inr rfl | assumption))))) pss_nil))) (by intro _; rfl))) (by intro _; rfl)) (@pss_one _ _ _ (@ps_ret _ _ _ _ (pv 2))))), ?_⟩
    refine ⟨le_line (by simp), fun b0 hb0 => ?_⟩
    have hca := (Same.upd (o := .lst []) hb0) _ _ C1.ca
    refine ⟨_, rfl, a, _, 0, _, rfl, rfl, .of hca, atI_nat (j := 0) rfl, x1, _, rfl, .inl (.of ((Same.upd hb0) _ _ C1.fi)), ((c.xs.map V.str).length : Int), rfl, by omega, by omega, ?_⟩
    refine for_range (fun i σ H' => (∃ (fd : Addr) (u1 u2 u3 u4 u5 : Option V) (vs : List V) (L : List (List Pr)), σ = [some (.ref a), some (.ref s0), some (.ref fd), u1, u2, u3, u4, u5] ∧ H' fd = some (.lst vs) ∧ WaysL H' vs L ∧ WI c shut i 0 L) ∧ Same H H') ⟨⟨b0, _, _, _, _, _, [], [], rfl, upd_same, .nil, .nil⟩, Same.upd hb0⟩ ?_ ?_
    · rintro i σ H' hi ⟨⟨fd, u1, u2, u3, u4, u5, vs, L, rfl, hfd, WL, wi⟩, s1⟩
      have hi : i < c.xs.length := by omega
      have hca := s1 _ _ C1.ca
      refine ⟨_, rfl, a, _, 1, _, rfl, rfl, .of hca, atI_nat (j := 1) rfl, x2, _, rfl, .inl (.of (s1 _ _ C1.se)), ((c.ys.map V.str).length : Int), rfl, by omega, by omega, ?_⟩
      refine for_range (fun j σ H' => (∃ (fd : Addr) (u2 u3 u4 u5 : Option V) (vs : List V) (L : List (List Pr)), σ = [some (.ref a), some (.ref s0), some (.ref fd), some (.int (0 + (i : Int))), u2, u3, u4, u5] ∧ H' fd = some (.lst vs) ∧ WaysL H' vs L ∧ WI c shut i j L) ∧ Same H H') ⟨⟨fd, _, _, _, _, vs, L, rfl, hfd, WL, wi⟩, s1⟩ ?_ ?_
      · clear hca s1 hfd WL wi vs L fd u1 u2 u3 u4 u5 H'
        rintro j σ H' hj ⟨⟨fd, u2, u3, u4, u5, vs, L, rfl, hfd, WL, wi⟩, s1⟩
        have hj : j < c.ys.length := by omega
        have C3 := C1.keep s1
        have hca := C3.ca
        have hnu := C3.nu
        have ei : (0 + (i : Int)) = (i : Int) := by omega
        have ej : (0 + (j : Int)) = (j : Int) := by omega
        obtain ⟨wx, hx1, hx2⟩ := wd_in (xs := c.xs) (i := 0 + (i : Int)) (by omega) (by omega)
        obtain ⟨wy, hy1, hy2⟩ := wd_in (xs := c.ys) (i := 0 + (j : Int)) (by omega) (by omega)
        have ep : c.pw (0 + (i : Int), 0 + (j : Int)) = pairW c.same c.fs wx wy := Case.pw_of hx1 hy1
        have ep2 : c.pw ((i : Int), (j : Int)) = pairW c.same c.fs wx wy := by rw [← ep, ei, ej]
        refine ⟨_, rfl, a, _, 0, _, rfl, rfl, .of hca, atI_nat (j := 0) rfl, _, rfl, x1, _, _, _, rfl, rfl, .of C3.fi, hx2, _, rfl, a, _, 1, _, rfl, rfl, .of hca, atI_nat (j := 1) rfl, _, rfl, x2, _, _, _, rfl, rfl, .of C3.se, hy2, _, rfl, a, _, 2, _, rfl, rfl, .of hca, atI_nat (j := 2) rfl, m, _, 0, _, rfl, rfl, .of hnu, atI_nat (j := 0) rfl, _, rfl, a, _, 3, _, rfl, rfl, .of hca, atI_nat (j := 3) rfl, wx, wy, c.same, l, us, c.fs, rfl, C3.ne, C3.tr, ?_⟩
        rw [← ep2]
        have small := wi.small (by omega) (by omega)
        have out : opn c shut ((i : Int), (j : Int)) = none → ∀ H2 σ2, Same H' H2 → (∃ (u2 u3 u4 u5 : Option V), σ2 = [some (.ref a), some (.ref s0), some (.ref fd), some (.int (0 + (i : Int))), u2, u3, u4, u5]) → (∃ (fd : Addr) (u2 u3 u4 u5 : Option V) (vs : List V) (L : List (List Pr)), σ2 = [some (.ref a), some (.ref s0), some (.ref fd), some (.int (0 + (i : Int))), u2, u3, u4, u5] ∧ H2 fd = some (.lst vs) ∧ WaysL H2 vs L ∧ WI c shut i (j + 1) L) ∧ Same H H2 := fun hno H2 σ2 s2 ⟨v2, v3, v4, v5, e⟩ => ⟨⟨fd, v2, v3, v4, v5, vs, L, e, s2 _ _ hfd, WL.same s2, wi.skip hno⟩, s1.trans s2⟩
        refine ⟨_, rfl, _, rfl, ?_⟩
        cases epw : c.pw ((i : Int), (j : Int)) with
        | none =>
          refine ite2 (fun hh => absurd hh (by simp [optV])) (fun _ => ?_)
          refine iteF ?_
          exact out (by unfold opn; split <;> simp [epw]) H' _ (.refl _) ⟨_, _, _, _, rfl⟩
        | some wv =>
          refine ite2 (fun _ => ?_) (fun hh => absurd (by simp [optV]) hh)
          refine ⟨_, rfl, _, rfl, le_line (by simp), fun p hp => ?_⟩
          have s2 : Same H' (upd H' p (.tup [.int (0 + (i : Int)), .int (0 + (j : Int))])) := Same.upd hp
          have PS2 := PS.same (s1.trans s2)
          have nr : ∀ k : Nat, ss[k]? ≠ some (V.ref p) := (PS.same s1).noRef hp
          refine ⟨_, rfl, p, s0, [.int (0 + (i : Int)), .int (0 + (j : Int))], ss, shut.map prV, rfl, rfl, .of upd_same, rfl, .of (s2 _ _ (s1 _ _ hs0)), PS2.tl, nr, _, rfl, ?_⟩
          have ea : ((shut.map prV).any fun c => eqTs c [.int (0 + (i : Int)), .int (0 + (j : Int))]) = decide (((i : Int), (j : Int)) ∈ shut) := by
            rw [← any_prV, ei, ej]; rfl
          rw [ea]
          generalize upd H' p (.tup [.int (0 + (i : Int)), .int (0 + (j : Int))]) = H5 at s2 PS2
          refine ite2 (fun h1 => ?_) (fun h1 => ?_)
          rotate_left
          · have h1 : ((i : Int), (j : Int)) ∈ shut := by simpa using h1
            exact out (by simp [opn, h1]) H5 _ s2 ⟨_, _, _, _, rfl⟩
          have h1 : ((i : Int), (j : Int)) ∉ shut := by simpa using h1
          have hop : opn c shut ((i : Int), (j : Int)) = some wv := by simp [opn, h1, epw]
          have wi2 := wi.add hop
          have small2 := wi2.small (by omega) (by omega)
          have WL5 := WL.same s2
          have hfd5 := s2 _ _ hfd
          have s5 := s1.trans s2
          refine ⟨_, rfl, _, rfl, le_line (by simp), fun t ht => ⟨le_line (by simp), fun l1 hl1 => ⟨le_line (by simp), fun fr hfr => ?_⟩⟩⟩
          have sA := ((Same.upd (o := .tup [.int (0 + (i : Int)), .int (0 + (j : Int))]) ht).trans (Same.upd (o := .lst [.ref t]) hl1)).trans (Same.upd (o := .lst [.ref l1]) hfr)
          have hfr5 : H5 fr = none := ((Same.upd (o := .tup [.int (0 + (i : Int)), .int (0 + (j : Int))]) ht).trans (Same.upd (o := .lst [.ref t]) hl1)).free hfr
          have nfr : l1 ≠ fr := ne_of_none upd_same hfr
          refine ⟨_, rfl, fd, rfl, ⟨_, .of (sA _ _ hfd5)⟩, ?_⟩
          have W0 : WaysL (upd (upd (upd H5 t (.tup [.int (0 + (i : Int)), .int (0 + (j : Int))])) l1 (.lst [.ref t])) fr (.lst [.ref l1])) [.ref l1] [[((i : Int), (j : Int))]] := by
            refine WaysL.one (us := [.ref t]) (by rw [upd_ne nfr]; exact upd_same) (Prs.one ?_)
            have h1 : upd H5 t (.tup [.int (0 + (i : Int)), .int (0 + (j : Int))]) t = some (.tup (prV ((i : Int), (j : Int)))) := by rw [upd_same, ei, ej]; rfl
            exact (Same.upd hfr) _ _ ((Same.upd hl1) _ _ h1)
          refine for_list (xs := vs) (fun k σ H2 => (∃ u5, σ = [some (.ref a), some (.ref s0), some (.ref fd), some (.int (0 + (i : Int))), some (.int (0 + (j : Int))), some (optV (some wv)), some (.ref fr), u5]) ∧ Same H5 H2 ∧ ∃ fs, H2 fr = some (.lst fs) ∧ WaysL H2 fs (freshW L ((i : Int), (j : Int)) k) ∧ NoRef fr fs) ⟨⟨_, rfl⟩, sA, [.ref l1], upd_same, by simpa [freshW] using W0, .one nfr⟩ ?_ ?_ ?_
          · rintro k σ H2 _ ⟨_, sB, _⟩
            exact .of (sB _ _ hfd5)
          · rintro k v σ H2 hv ⟨⟨v5, rfl⟩, sB, fs, hfs, WF, NF⟩
            have hk : k < L.length := by rw [← WL5.1]; exact (List.getElem?_eq_some_iff.mp hv).1
            have ek : L[k]? = some L[k] := by simp [hk]
            generalize L[k] = ps at ek
            obtain ⟨wa, wus, ha1, ha2, PW⟩ := (WL5.same sB).2 k ps ek
            rw [hv] at ha1
            cases ha1
            have ow := ((wi.mem ps).mp (List.mem_of_getElem? ek)).1
            have hne := (isWay_good ow.1).1
            have hpl := ow.len
            have hwl := PW.1
            obtain ⟨tl, hat, htl⟩ := PW.last hne
            have fl := freshW_len L ((i : Int), (j : Int)) k
            have fl2 := WF.1
            refine ⟨_, rfl, _, rfl, wa, _, _, _, rfl, rfl, .of ha2, hat, tl, _, 0, _, rfl, rfl, .of htl, atI_nat (j := 0) rfl, _, rfl, _, _, rfl, rfl, _, rfl, ?_⟩
            have no : stepOk (lastP ps) ((i : Int), (j : Int)) = false → (∃ u5, ([some (.ref a), some (.ref s0), some (.ref fd), some (.int (0 + (i : Int))), some (.int (0 + (j : Int))), some (optV (some wv)), some (.ref fr), some (.ref wa)] : St) = [some (.ref a), some (.ref s0), some (.ref fd), some (.int (0 + (i : Int))), some (.int (0 + (j : Int))), some (optV (some wv)), some (.ref fr), u5]) ∧ Same H5 H2 ∧ ∃ fs, H2 fr = some (.lst fs) ∧ WaysL H2 fs (freshW L ((i : Int), (j : Int)) (k + 1)) ∧ NoRef fr fs := fun hst => ⟨⟨_, rfl⟩, sB, fs, hfs, by rw [freshW_no ek hst]; exact WF, NF⟩
            refine ite2 (fun h3 => ?_) (fun h3 => ?_)
            rotate_left
            · have h3 : ¬ (lastP ps).1 < 0 + (i : Int) := by simpa using h3
              refine iteF ?_
              exact no (by simp [stepOk]; omega)
            have h3 : (lastP ps).1 < 0 + (i : Int) := by simpa using h3
            refine ⟨_, rfl, _, rfl, wa, _, _, _, rfl, rfl, .of ha2, hat, tl, _, 1, _, rfl, rfl, .of htl, atI_nat (j := 1) rfl, _, rfl, _, _, rfl, rfl, _, rfl, ?_⟩
            refine ite2 (fun h4 => ?_) (fun h4 => ?_)
            rotate_left
            · have h4 : ¬ (lastP ps).2 < 0 + (j : Int) := by simpa using h4
              exact no (by simp [stepOk]; omega)
            have h4 : (lastP ps).2 < 0 + (j : Int) := by simpa using h4
            have hst : stepOk (lastP ps) ((i : Int), (j : Int)) = true := step_iff.mpr ⟨by show (lastP ps).1 < (i : Int); omega, by show (lastP ps).2 < (j : Int); omega⟩
            refine ⟨_, rfl, .inl ⟨rfl, _, .of hfs⟩, _, rfl, _, rfl, _, rfl, le_line (by simp), fun t2 ht2 => ⟨le_line (by simp), fun l2 hl2 => ?_⟩⟩
            have sC := (Same.upd (o := .tup [.int (0 + (i : Int)), .int (0 + (j : Int))]) ht2).trans (Same.upd (o := .lst [.ref t2]) hl2)
            refine ⟨wa, l2, wus, [.ref t2], rfl, rfl, sC _ _ ha2, upd_same, le_line (by simp; omega), fun l3 hl3 => ?_⟩
            have sD := sC.trans (Same.upd (o := .lst (wus ++ [.ref t2])) hl3)
            have n3 : l3 ≠ fr := Ne.symm (ne_of_none (sC _ _ hfs) hl3)
            have ht3 : upd (upd (upd H2 t2 (.tup [.int (0 + (i : Int)), .int (0 + (j : Int))])) l2 (.lst [.ref t2])) l3 (.lst (wus ++ [.ref t2])) t2 = some (.tup (prV ((i : Int), (j : Int)))) := by
              have h1 : upd H2 t2 (.tup [.int (0 + (i : Int)), .int (0 + (j : Int))]) t2 = some (.tup (prV ((i : Int), (j : Int)))) := by rw [upd_same, ei, ej]; rfl
              exact (Same.upd hl3) _ _ ((Same.upd hl2) _ _ h1)
            have W3 : WaysL (upd (upd (upd H2 t2 (.tup [.int (0 + (i : Int)), .int (0 + (j : Int))])) l2 (.lst [.ref t2])) l3 (.lst (wus ++ [.ref t2]))) (fs ++ [.ref l3]) (freshW L ((i : Int), (j : Int)) (k + 1)) := by
              rw [freshW_yes ek hst]
              exact (WF.same sD).append (WaysL.one (us := wus ++ [.ref t2]) upd_same ((PW.same sD).append (Prs.one ht3)))
            have NF3 : NoRef fr (fs ++ [.ref l3]) := NF.append (.one n3)
            exact ⟨fr, fs, _, rfl, rfl, sD _ _ hfs, lt_line (by omega), ⟨_, rfl⟩, (sB.trans sD).upd2 hfr5, _, upd_same, W3.put NF3 (sD _ _ hfs), NF3⟩
          · rintro σ H2 ⟨⟨v5, rfl⟩, sB, fs, hfs, WF, NF⟩
            rw [WL5.1, freshW_all] at WF
            have fl2 := WF.1
            have hvl := WL5.1
            have e9 : (L ++ newW L ((i : Int), (j : Int))).length = vs.length + fs.length := by rw [List.length_append, hvl, fl2]
            refine ⟨_, rfl, _, rfl, fd, fr, vs, fs, rfl, rfl, sB _ _ hfd5, hfs, le_line (by omega), fun f2 hf2 => ?_⟩
            have sE := Same.upd (o := .lst (vs ++ fs)) hf2
            exact ⟨⟨f2, _, _, _, _, vs ++ fs, _, rfl, upd_same, ((WL5.same sB).append WF).same sE, wi2⟩, (s5.trans sB).trans sE⟩
      · rintro σ H2 ⟨⟨fd2, v2, v3, v4, v5, vs2, L2, rfl, hfd2, WL2, wi2⟩, s2⟩
        have e : ((c.ys.map V.str).length : Int).toNat = c.ys.length := by omega
        rw [e] at wi2
        exact ⟨⟨fd2, _, _, _, _, _, vs2, L2, rfl, hfd2, WL2, wi2.row rfl (by omega)⟩, s2⟩
    · rintro σ H2 ⟨⟨fd2, v1, v2, v3, v4, v5, vs2, L2, rfl, hfd2, WL2, wi2⟩, s2⟩
      have e : ((c.xs.map V.str).length : Int).toNat = c.xs.length := by omega
      rw [e] at wi2
      have sm := wi2.small (by omega) (by omega)
      exact ⟨_, rfl, q H2 fd2 vs2 L2 s2 hfd2 WL2 (by omega) (wi2.all rfl)⟩
theorem sc__law_texts : FnScope ["_law_found", "_law_due", "_law_k"] ["_law_found", "_law_due"] (defScope s__law_texts) := ⟨rfl, rfl, rfl, by decide +kernel, rfl, by decide +kernel, by decide +kernel⟩
theorem ok__law_texts {f : Addr} {fd : FuncData} (F : Fun K "_law_texts" "_law_texts" s__law_texts f fd) (T : TB mg) : FnOk P w K mg base (CXF P w) true 1 f fd ["_law_found", "_law_due"] sp_texts := by
  refine F.okX sc__law_texts (fun vs H Q E h => ?_) (fun cdv A outer s H vs Q E hr h hX => ?_)
  · obtain ⟨a, b, ws, rfl, _⟩ := h
    rfl
  · obtain ⟨a, b, ws, rfl, ha, hb, hlen, q⟩ := h
    have el : (ws.map V.str).length = ws.length := List.length_map ..
    refine ⟨_, (@pss_cons _ _ _ _ _ (@ps_if _ _ _ _ _ _ _ _ (@PW.pt _ _ _ (@pw_or _ _ _ _ _ _ _ (@pt_not _ _ _ _ (@pt_val _ _ _ (@pe_callB _ _ _ _ _ _ _ _ _ (call_isiK K) (by exact rfl) T.n_isinstance PyProof.Rows.Boot.«isinstance» (@pa_c _ _ _ _ _ (pv 0) (@pa_c _ _ _ _ _ (@pe_bltn _ _ (.ty "list") _ _ (by exact rfl) T.n_list PyProof.Rows.Boot.«list» (by exact rfl) (by decide) (by decide)) pa_nil (by rfl)) (by rfl)) (by decide) (by decide) (by rfl) (by rfl)) (by intro _; rfl))) (@pw_or1 _ _ _ _ (@pt_cmpR _ _ _ _ _ _ _ _ op_ne (@pe_callB _ _ _ _ _ _ _ _ _ (call_len_seqK K) (by exact rfl) T.n_len PyProof.Rows.Boot.«len» (@pa_c _ _ _ _ _ (pv 0) pa_nil (by rfl)) (by decide) (by decide) (by rfl) (by rfl)) (@pe_callB _ _ _ _ _ _ _ _ _ (call_len_seqK K) (by exact rfl) T.n_len PyProof.Rows.Boot.«len» (@pa_c _ _ _ _ _ (pv 1) pa_nil (by rfl)) (by decide) (by decide) (by rfl) (by rfl)) (nomark _))))) (@pss_one _ _ _ (@ps_ret _ _ _ _ pe_bl)) pss_nil) (@pss_cons _ _ _ _ _ (@ps_for _ _ _ _ _ _ _ _ hX.own (by exact rfl) (@pi_range1 _ _ _ _ _ _ (by exact rfl) T.n_range (@pa_c _ _ _ _ _ (@pe_callB _ _ _ _ _ _ _ _ _ (call_len_seqK K) (by exact rfl) T.n_len PyProof.Rows.Boot.«len» (@pa_c _ _ _ _ _ (pv 1) pa_nil (by rfl)) (by decide) (by decide) (by rfl) (by rfl)) pa_nil (by rfl)) (by rfl)) (@pg_name _ _ (2) _ sc__law_texts.nd (by exact rfl) (Or.inl rfl) (by first | exact .inl rfl | exact .inr rfl | assumption)) (@pss_one _ _ _ (@ps_if _ _ _ _ _ _ _ _ (@PW.pt _ _ _ (@pw_or _ _ _ _ _ _ _ (@pt_not _ _ _ _ (@pt_val _ _ _ (@pe_callB _ _ _ _ _ _ _ _ _ (call_isiK K) (by exact rfl) T.n_isinstance PyProof.Rows.Boot.«isinstance» (@pa_c _ _ _ _ _ (@pe_ix _ _ _ _ _ _ _ (ix_listK K) (pv 0) (pv 2) (fun _ _ => rfl)) (@pa_c _ _ _ _ _ (@pe_bltn _ _ (.ty "str") _ _ (by exact rfl) T.n_str PyProof.Rows.Boot.«str» (by exact rfl) (by decide) (by decide)) pa_nil (by rfl)) (by rfl)) (by decide) (by decide) (by rfl) (by rfl)) (by intro _; rfl))) (@pw_or1 _ _ _ _ (@pt_cmpR _ _ _ _ _ _ _ _ op_ne (@pe_ix _ _ _ _ _ _ _ (ix_listK K) (pv 0) (pv 2) (fun _ _ => rfl)) (@pe_ix _ _ _ _ _ _ _ (ix_listK K) (pv 1) (pv 2) (fun _ _ => rfl)) (nomark _))))) (@pss_one _ _ _ (@ps_ret _ _ _ _ pe_bl)) pss_nil)) (by intro _; rfl)) (@pss_one _ _ _ (@ps_ret _ _ _ _ pe_bl)))), ?_⟩
    refine ⟨_, rfl, _, _, _, true, _, rfl, rfl, .lst ha, rfl, _, rfl, ?_⟩
    refine iteF ?_
    refine ⟨_, rfl, a, _, rfl, .inl (.of ha), _, rfl, b, _, rfl, .inl (.of hb), rfl, _, rfl, ?_⟩
    refine ite2 (fun hh => absurd hh (by simp)) (fun _ => ?_)
    refine ⟨_, rfl, b, _, rfl, .inl (.of hb), ((ws.map V.str).length : Int), rfl, by omega, by omega, ?_⟩
    refine for_range (fun i σ H' => (∃ u, σ = [some (.ref a), some (.ref b), u]) ∧ H' = H) ⟨⟨_, rfl⟩, rfl⟩ ?_ ?_
    · rintro i σ H' hi ⟨⟨u, rfl⟩, rfl⟩
      have hi : i < ws.length := by omega
      have hx : (ws.map V.str)[i]? = some (.str ws[i]) := by simp [hi]
      generalize ws[i] = v at hx
      refine ⟨_, rfl, _, rfl, a, _, _, _, rfl, rfl, .of ha, at0 hx, _, _, _, true, _, rfl, rfl, .str v, rfl, _, rfl, ?_⟩
      refine iteF ?_
      refine ⟨_, rfl, _, rfl, a, _, _, _, rfl, rfl, .of ha, at0 hx, _, rfl, _, rfl, b, _, _, _, rfl, rfl, .of hb, at0 hx, rfl, _, rfl, ?_⟩
      refine ite2 (fun hh => absurd hh (by simp)) (fun _ => ?_)
      exact ⟨⟨_, rfl⟩, rfl⟩
    · rintro σ H' ⟨⟨u, rfl⟩, rfl⟩
      exact q
theorem sc__law_table : FnScope ["_law_found", "_law_due", "_law_i", "_law_j"] ["_law_found", "_law_due"] (defScope s__law_table) := ⟨rfl, rfl, rfl, by decide +kernel, rfl, by decide +kernel, by decide +kernel⟩
theorem ok__law_table {f : Addr} {fd : FuncData} (F : Fun K "_law_table" "_law_table" s__law_table f fd) (T : TB mg) (D__law_whole : IsDef P w K mg base true 1 "_law_whole" ["_law_found"] sp_whole) : FnOk P w K mg base (CXF P w) true 2 f fd ["_law_found", "_law_due"] sp_ltable := by
  refine F.okX sc__law_table (fun vs H Q E h => ?_) (fun cdv A outer s H vs Q E hr h hX => ?_)
  · obtain ⟨e, d, as, bs, f, n, m, rfl, _⟩ := h
    rfl
  · obtain ⟨e, d, as, bs, f1, n, m, rfl, he, hd, TA, TB', hn, hm, q⟩ := h
    have la := TA.len
    have lb := TB'.len
    have ea : (as.map V.ref).length = n := by rw [List.length_map, la]
    have eb : (bs.map V.ref).length = n := by rw [List.length_map, lb]
    refine ⟨_, (@pss_cons _ _ _ _ _ (@ps_if _ _ _ _ _ _ _ _ (@PW.pt _ _ _ (@pw_or _ _ _ _ _ _ _ (@pt_not _ _ _ _ (@pt_val _ _ _ (@pe_callB _ _ _ _ _ _ _ _ _ (call_isiK K) (by exact rfl) T.n_isinstance PyProof.Rows.Boot.«isinstance» (@pa_c _ _ _ _ _ (pv 0) (@pa_c _ _ _ _ _ (@pe_bltn _ _ (.ty "list") _ _ (by exact rfl) T.n_list PyProof.Rows.Boot.«list» (by exact rfl) (by decide) (by decide)) pa_nil (by rfl)) (by rfl)) (by decide) (by decide) (by rfl) (by rfl)) (by intro _; rfl))) (@pw_or1 _ _ _ _ (@pt_cmpR _ _ _ _ _ _ _ _ op_ne (@pe_callB _ _ _ _ _ _ _ _ _ (call_len_seqK K) (by exact rfl) T.n_len PyProof.Rows.Boot.«len» (@pa_c _ _ _ _ _ (pv 0) pa_nil (by rfl)) (by decide) (by decide) (by rfl) (by rfl)) (@pe_callB _ _ _ _ _ _ _ _ _ (call_len_seqK K) (by exact rfl) T.n_len PyProof.Rows.Boot.«len» (@pa_c _ _ _ _ _ (pv 1) pa_nil (by rfl)) (by decide) (by decide) (by rfl) (by rfl)) (nomark _))))) (@pss_one _ _ _ (@ps_ret _ _ _ _ pe_bl)) pss_nil) (@pss_cons _ _ _ _ _ (@ps_for _ _ _ _ _ _ _ _ hX.own (by exact rfl) (@pi_range1 _ _ _ _ _ _ (by exact rfl) T.n_range (@pa_c _ _ _ _ _ (@pe_callB _ _ _ _ _ _ _ _ _ (call_len_seqK K) (by exact rfl) T.n_len PyProof.Rows.Boot.«len» (@pa_c _ _ _ _ _ (pv 1) pa_nil (by rfl)) (by decide) (by decide) (by rfl) (by rfl)) pa_nil (by rfl)) (by rfl)) (@pg_name _ _ (2) _ sc__law_table.nd (by exact rfl) (Or.inl rfl) (by first | exact .inl rfl | exact .inr rfl | assumption)) (@pss_cons _ _ _ _ _ (@ps_if _ _ _ _ _ _ _ _ (@PW.pt _ _ _ (@pw_or _ _ _ _ _ _ _ (@pt_not _ _ _ _ (@pt_val _ _ _ (@pe_callB _ _ _ _ _ _ _ _ _ (call_isiK K) (by exact rfl) T.n_isinstance PyProof.Rows.Boot.«isinstance» (@pa_c _ _ _ _ _ (@pe_ix _ _ _ _ _ _ _ (ix_listK K) (pv 0) (pv 2) (fun _ _ => rfl)) (@pa_c _ _ _ _ _ (@pe_bltn _ _ (.ty "list") _ _ (by exact rfl) T.n_list PyProof.Rows.Boot.«list» (by exact rfl) (by decide) (by decide)) pa_nil (by rfl)) (by rfl)) (by decide) (by decide) (by rfl) (by rfl)) (by intro _; rfl))) (@pw_or1 _ _ _ _ (@pt_cmpR _ _ _ _ _ _ _ _ op_ne (@pe_callB _ _ _ _ _ _ _ _ _ (call_len_seqK K) (by exact rfl) T.n_len PyProof.Rows.Boot.«len» (@pa_c _ _ _ _ _ (@pe_ix _ _ _ _ _ _ _ (ix_listK K) (pv 0) (pv 2) (fun _ _ => rfl)) pa_nil (by rfl)) (by decide) (by decide) (by rfl) (by rfl)) (@pe_callB _ _ _ _ _ _ _ _ _ (call_len_seqK K) (by exact rfl) T.n_len PyProof.Rows.Boot.«len» (@pa_c _ _ _ _ _ (@pe_ix _ _ _ _ _ _ _ (ix_listK K) (pv 1) (pv 2) (fun _ _ => rfl)) pa_nil (by rfl)) (by decide) (by decide) (by rfl) (by rfl)) (nomark _))))) (@pss_one _ _ _ (@ps_ret _ _ _ _ pe_bl)) pss_nil) (@pss_one _ _ _ (@ps_for _ _ _ _ _ _ _ _ hX.own (by exact rfl) (@pi_range1 _ _ _ _ _ _ (by exact rfl) T.n_range (@pa_c _ _ _ _ _ (@pe_callB _ _ _ _ _ _ _ _ _ (call_len_seqK K) (by exact rfl) T.n_len PyProof.Rows.Boot.«len» (@pa_c _ _ _ _ _ (@pe_ix _ _ _ _ _ _ _ (ix_listK K) (pv 1) (pv 2) (fun _ _ => rfl)) pa_nil (by rfl)) (by decide) (by decide) (by rfl) (by rfl)) pa_nil (by rfl)) (by rfl)) (@pg_name _ _ (3) _ sc__law_table.nd (by exact rfl) (Or.inl rfl) (by first | exact .inl rfl | exact .inr rfl | assumption)) (@pss_cons _ _ _ _ _ (@ps_if _ _ _ _ _ _ _ _ (@PW.pt _ _ _ (@pw_and _ _ _ _ _ _ _ (@pt_cmp _ _ _ _ _ _ (@pc_isN _ _ _ _ _ (@pe_ix _ _ _ _ _ _ _ (ix_listK K) (@pe_ix _ _ _ _ _ _ _ (ix_listK K) (pv 1) (pv 2) (fun _ _ => rfl)) (pv 3) (fun _ _ => rfl))) (by first | exact nobehind _ (by decide) (by decide) | rfl)) (@pw_and1 _ _ _ _ (@pt_cmp _ _ _ _ _ _ (@pc_notN _ _ _ _ _ (@pe_ix _ _ _ _ _ _ _ (ix_listK K) (@pe_ix _ _ _ _ _ _ _ (ix_listK K) (pv 0) (pv 2) (fun _ _ => rfl)) (pv 3) (fun _ _ => rfl))) (by first | exact nobehind _ (by decide) (by decide) | rfl))))) (@pss_one _ _ _ (@ps_ret _ _ _ _ pe_bl)) pss_nil) (@pss_cons _ _ _ _ _ (@ps_if _ _ _ _ _ _ _ _ (@PW.pt _ _ _ (@pw_and _ _ _ _ _ _ _ (@pt_cmp _ _ _ _ _ _ (@pc_notN _ _ _ _ _ (@pe_ix _ _ _ _ _ _ _ (ix_listK K) (@pe_ix _ _ _ _ _ _ _ (ix_listK K) (pv 1) (pv 2) (fun _ _ => rfl)) (pv 3) (fun _ _ => rfl))) (by first | exact nobehind _ (by decide) (by decide) | rfl)) (@pw_and1 _ _ _ _ (@pt_not _ _ _ _ (@pt_val _ _ _ (@pe_def _ _ _ _ _ _ _ _ _ _ _ _ D__law_whole (hr.mono (by decide)) passF (@pa_c _ _ _ _ _ (@pe_ix _ _ _ _ _ _ _ (ix_listK K) (@pe_ix _ _ _ _ _ _ _ (ix_listK K) (pv 0) (pv 2) (fun _ _ => rfl)) (pv 3) (fun _ _ => rfl)) pa_nil (by rfl)) (by rfl) (by decide) (by rfl) (by rfl)) (by intro _; rfl)))))) (@pss_one _ _ _ (@ps_ret _ _ _ _ pe_bl)) pss_nil) (@pss_one _ _ _ (@ps_if _ _ _ _ _ _ _ _ (@PW.pt _ _ _ (@pw_and _ _ _ _ _ _ _ (@pt_cmp _ _ _ _ _ _ (@pc_notN _ _ _ _ _ (@pe_ix _ _ _ _ _ _ _ (ix_listK K) (@pe_ix _ _ _ _ _ _ _ (ix_listK K) (pv 1) (pv 2) (fun _ _ => rfl)) (pv 3) (fun _ _ => rfl))) (by first | exact nobehind _ (by decide) (by decide) | rfl)) (@pw_and1 _ _ _ _ (@pt_cmpR _ _ _ _ _ _ _ _ op_ne (@pe_ix _ _ _ _ _ _ _ (ix_listK K) (@pe_ix _ _ _ _ _ _ _ (ix_listK K) (pv 0) (pv 2) (fun _ _ => rfl)) (pv 3) (fun _ _ => rfl)) (@pe_ix _ _ _ _ _ _ _ (ix_listK K) (@pe_ix _ _ _ _ _ _ _ (ix_listK K) (pv 1) (pv 2) (fun _ _ => rfl)) (pv 3) (fun _ _ => rfl)) (nomark _))))) (@pss_one _ _ _ (@ps_ret _ _ _ _ pe_bl)) pss_nil)))) (by intro _; rfl)))) (by intro _; rfl)) (@pss_one _ _ _ (@ps_ret _ _ _ _ pe_bl)))), ?_⟩
    refine ⟨_, rfl, _, _, _, true, _, rfl, rfl, .lst he, rfl, _, rfl, ?_⟩
    refine iteF ?_
    refine ⟨_, rfl, e, _, rfl, .inl (.of he), _, rfl, d, _, rfl, .inl (.of hd), rfl, _, rfl, ?_⟩
    refine ite2 (fun hh => absurd hh (by rw [ea, eb]; simp)) (fun _ => ?_)
    refine ⟨_, rfl, d, _, rfl, .inl (.of hd), ((bs.map V.ref).length : Int), rfl, by omega, by omega, ?_⟩
    refine for_range (fun i σ H' => (∃ u v, σ = [some (.ref e), some (.ref d), u, v]) ∧ H' = H) ⟨⟨_, _, rfl⟩, rfl⟩ ?_ ?_
    · rintro i σ H' hi ⟨⟨u, v, rfl⟩, e0⟩
      subst e0
      have hi : i < n := by omega
      obtain ⟨ra, a1, a2, a3⟩ := TA.at hi
      obtain ⟨rb, b1, b2, b3⟩ := TB'.at hi
      have l1 := rowV_len m (f1 i)
      refine ⟨_, rfl, _, rfl, e, _, _, _, rfl, rfl, .of he, at0 a2, _, _, _, true, _, rfl, rfl, .lst a3, rfl, _, rfl, ?_⟩
      refine iteF ?_
      refine ⟨_, rfl, _, rfl, e, _, _, _, rfl, rfl, .of he, at0 a2, ra, _, rfl, .inl (.of a3), _, rfl, _, rfl, d, _, _, _, rfl, rfl, .of hd, at0 b2, rb, _, rfl, .inl (.of b3), rfl, _, rfl, ?_⟩
      refine ite2 (fun hh => absurd hh (by simp)) (fun _ => ?_)
      refine ⟨_, rfl, _, rfl, d, _, _, _, rfl, rfl, .of hd, at0 b2, rb, _, rfl, .inl (.of b3), ((rowV m (f1 i)).length : Int), rfl, by omega, by omega, ?_⟩
      refine for_range (fun j σ H2 => (∃ v, σ = [some (.ref e), some (.ref d), some (.int (0 + (i : Int))), v]) ∧ H2 = H') ⟨⟨_, rfl⟩, rfl⟩ ?_ ?_
      · rintro j σ H2 hj ⟨⟨v, rfl⟩, e1⟩
        subst e1
        have hj : j < m := by omega
        have hat := at0 (rowV_at (f := f1 i) hj)
        have due : ∀ {Q' : V → Hp → Prop}, Q' (optV (f1 i j)) H2 → True := fun _ => trivial
        cases ef : f1 i j with
        | none =>
          rw [ef] at hat
          refine ⟨_, rfl, _, rfl, d, _, _, _, rfl, rfl, .of hd, at0 b2, _, rfl, rb, _, _, _, rfl, rfl, .of b3, hat, _, rfl, ?_⟩
          refine ite2 (fun _ => ?_) (fun hh => absurd (by simp [optV]) hh)
          refine ⟨_, rfl, _, rfl, e, _, _, _, rfl, rfl, .of he, at0 a2, _, rfl, ra, _, _, _, rfl, rfl, .of a3, hat, _, rfl, ?_⟩
          refine ite2 (fun hh => absurd hh (by simp [optV])) (fun _ => ?_)
          refine ⟨_, rfl, _, rfl, d, _, _, _, rfl, rfl, .of hd, at0 b2, _, rfl, rb, _, _, _, rfl, rfl, .of b3, hat, _, rfl, ?_⟩
          refine ite2 (fun hh => absurd hh (by simp [optV])) (fun _ => ?_)
          refine iteF ?_
          refine ⟨_, rfl, _, rfl, d, _, _, _, rfl, rfl, .of hd, at0 b2, _, rfl, rb, _, _, _, rfl, rfl, .of b3, hat, _, rfl, ?_⟩
          refine ite2 (fun hh => absurd hh (by simp [optV])) (fun _ => ?_)
          refine iteF ?_
          exact ⟨⟨_, rfl⟩, rfl⟩
        | some w =>
          rw [ef] at hat
          refine ⟨_, rfl, _, rfl, d, _, _, _, rfl, rfl, .of hd, at0 b2, _, rfl, rb, _, _, _, rfl, rfl, .of b3, hat, _, rfl, ?_⟩
          refine ite2 (fun hh => absurd hh (by simp [optV])) (fun _ => ?_)
          refine iteF ?_
          refine ⟨_, rfl, _, rfl, d, _, _, _, rfl, rfl, .of hd, at0 b2, _, rfl, rb, _, _, _, rfl, rfl, .of b3, hat, _, rfl, ?_⟩
          refine ite2 (fun _ => ?_) (fun hh => absurd (by simp [optV]) hh)
          refine ⟨_, rfl, _, rfl, e, _, _, _, rfl, rfl, .of he, at0 a2, _, rfl, ra, _, _, _, rfl, rfl, .of a3, hat, w, rfl, _, rfl, ?_⟩
          refine iteF ?_
          refine ⟨_, rfl, _, rfl, d, _, _, _, rfl, rfl, .of hd, at0 b2, _, rfl, rb, _, _, _, rfl, rfl, .of b3, hat, _, rfl, ?_⟩
          refine ite2 (fun _ => ?_) (fun hh => absurd (by simp [optV]) hh)
          refine ⟨_, rfl, _, rfl, e, _, _, _, rfl, rfl, .of he, at0 a2, _, rfl, ra, _, _, _, rfl, rfl, .of a3, hat, _, rfl, _, rfl, d, _, _, _, rfl, rfl, .of hd, at0 b2, _, rfl, rb, _, _, _, rfl, rfl, .of b3, hat, rfl, _, rfl, ?_⟩
          refine ite2 (fun hh => absurd hh (by simp)) (fun _ => ?_)
          exact ⟨⟨_, rfl⟩, rfl⟩
      · rintro σ H2 ⟨⟨v, rfl⟩, rfl⟩
        exact ⟨⟨_, _, rfl⟩, rfl⟩
    · rintro σ H' ⟨⟨u, v, rfl⟩, rfl⟩
      exact q
theorem sc__law_taken : FnScope ["_law_case_here", "_law_cell", "_law_other", "_law_found", "_law_rest", "_law_i", "_law_j"] ["_law_case_here", "_law_cell", "_law_other"] (defScope s__law_taken) := ⟨rfl, rfl, rfl, by decide +kernel, rfl, by decide +kernel, by decide +kernel⟩
theorem ok__law_taken {f : Addr} {fd : FuncData} (F : Fun K "_law_taken" "_law_taken" s__law_taken f fd) (T : TB mg) : FnOk P w K mg base (CXF P w) true 1 f fd ["_law_case_here", "_law_cell", "_law_other"] sp_ltaken := by
  refine F.okX sc__law_taken (fun vs H Q E h => ?_) (fun cdv A outer s H vs Q E hr h hX => ?_)
  · obtain ⟨a, x, y, c, f, g, m, l, us, rfl, _⟩ := h
    rfl
  · obtain ⟨a, x, y, c, x1, x2, m, l, us, rfl, C1, hx5, hy5, q⟩ := h
    have lx : (c.xs.map V.str).length = c.xs.length := List.length_map ..
    have ly : (c.ys.map V.str).length = c.ys.length := List.length_map ..
    refine ⟨_, (@pss_cut _ _ _ _ _ (@ps_set _ _ (3) _ _ _ _ sc__law_taken.nd (by exact rfl) (Or.inl rfl) (@pe_lst _ _ _ _ pa_nil) (by rfl) (by first | exact .inl rfl | exact .inr rfl | assumption)) (@pss_cut _ _ _ _ _ (@ps_set _ _ (4) _ _ _ _ sc__law_taken.nd (by exact rfl) (Or.inl rfl) (pv 1) (by rfl) (by first | exact .inl rfl | exact .inr rfl | assumption)) (@pss_cut _ _ _ _ _ (@ps_for _ _ _ _ _ _ _ _ hX.own (by exact rfl) (@pi_range1 _ _ _ _ _ _ (by exact rfl) T.n_range (@pa_c _ _ _ _ _ (@pe_callB _ _ _ _ _ _ _ _ _ (call_len_seqK K) (by exact rfl) T.n_len PyProof.Rows.Boot.«len» (@pa_c _ _ _ _ _ (@pe_ix _ _ _ _ _ _ _ (ix_listK K) (pv 0) pe_int (fun _ _ => rfl)) pa_nil (by rfl)) (by decide) (by decide) (by rfl) (by rfl)) pa_nil (by rfl)) (by rfl)) (@pg_name _ _ (5) _ sc__law_taken.nd (by exact rfl) (Or.inl rfl) (by first | exact .inl rfl | exact .inr rfl | assumption)) (@pss_one _ _ _ (@ps_for _ _ _ _ _ _ _ _ hX.own (by exact rfl) (@pi_range1 _ _ _ _ _ _ (by exact rfl) T.n_range (@pa_c _ _ _ _ _ (@pe_callB _ _ _ _ _ _ _ _ _ (call_len_seqK K) (by exact rfl) T.n_len PyProof.Rows.Boot.«len» (@pa_c _ _ _ _ _ (@pe_ix _ _ _ _ _ _ _ (ix_listK K) (pv 0) pe_int (fun _ _ => rfl)) pa_nil (by rfl)) (by decide) (by decide) (by rfl) (by rfl)) pa_nil (by rfl)) (by rfl)) (@pg_name _ _ (6) _ sc__law_taken.nd (by exact rfl) (Or.inl rfl) (by first | exact .inl rfl | exact .inr rfl | assumption)) (@pss_cut _ _ _ _ _ (@ps_if _ _ _ _ _ _ _ _ (@pt_cmpR _ _ _ _ _ _ _ _ op_eq (@pe_op _ _ _ _ _ _ _ _ op_mod (pv 4) pe_int) pe_int (nomark _)) (@pss_one _ _ _ (@ps_expr _ _ _ _ (@pe_bmK _ K _ _ _ _ _ _ _ _ _ _ _ PySem.F.plainAttrs_list PySem.F.slot_list_append PySem.F.type_list_append mt_append (pv 3) (@pa_c _ _ _ _ _ (@pe_tup _ _ _ _ _ (@pa_c _ _ _ _ _ (pv 5) (@pa_c _ _ _ _ _ (pv 6) pa_nil (by rfl)) (by rfl))) pa_nil (by rfl)) (by rfl) (by rfl) (by rfl) (by rfl) (by rfl) (by rfl)) (by rfl))) pss_nil) (@pss_one _ _ _ (@ps_set _ _ (4) _ _ _ _ sc__law_taken.nd (by exact rfl) (Or.inl rfl) (@pe_op _ _ _ _ _ _ _ _ op_fdiv (pv 4) pe_int) (by rfl) (by first | exact .inl rfl | exact .inr rfl | assumption)))) (by intro _; rfl))) (by intro _; rfl)) (@pss_cut _ _ _ _ _ (@ps_if _ _ _ _ _ _ _ _ (@pt_cmpR _ _ _ _ _ _ _ _ op_eq (@pe_op _ _ _ _ _ _ _ _ op_mod (pv 2) pe_int) pe_int (nomark _)) (@pss_one _ _ _ (@ps_set _ _ (3) _ _ _ _ sc__law_taken.nd (by exact rfl) (Or.inl rfl) (@pe_op _ _ _ _ _ _ _ _ op_cat (@pe_rev _ K _ _ _ _ _ _ (pv 3) (@pe_un _ _ _ _ _ _ un_neg pe_int) (by rfl)) (@pe_slice _ _ _ _ _ _ _ _ _ _ (sl_listK K) (pv 3) po_none (@po_some _ _ _ pe_int))) (by rfl) (by first | exact .inl rfl | exact .inr rfl | assumption))) pss_nil) (@pss_cut _ _ _ _ _ (@ps_if _ _ _ _ _ _ _ _ (@pt_cmpR _ _ _ _ _ _ _ _ op_eq (@pe_op _ _ _ _ _ _ _ _ op_mod (pv 2) pe_int) pe_int (nomark _)) (@pss_one _ _ _ (@ps_expr _ _ _ _ (@pe_bmK _ K _ _ _ _ _ _ _ _ _ _ _ PySem.F.plainAttrs_list PySem.F.slot_list_append PySem.F.type_list_append mt_append (pv 3) (@pa_c _ _ _ _ _ (@pe_tup _ _ _ _ _ (@pa_c _ _ _ _ _ (@pe_op _ _ _ _ _ _ _ _ op_sub (@pe_op _ _ _ _ _ _ _ _ op_mod (@pe_op _ _ _ _ _ _ _ _ op_fdiv (pv 2) pe_int) (@pe_op _ _ _ _ _ _ _ _ op_add (@pe_callB _ _ _ _ _ _ _ _ _ (call_len_seqK K) (by exact rfl) T.n_len PyProof.Rows.Boot.«len» (@pa_c _ _ _ _ _ (@pe_ix _ _ _ _ _ _ _ (ix_listK K) (pv 0) pe_int (fun _ _ => rfl)) pa_nil (by rfl)) (by decide) (by decide) (by rfl) (by rfl)) pe_int)) pe_int) (@pa_c _ _ _ _ _ (@pe_op _ _ _ _ _ _ _ _ op_sub (@pe_op _ _ _ _ _ _ _ _ op_mod (@pe_op _ _ _ _ _ _ _ _ op_fdiv (pv 2) pe_int) (@pe_op _ _ _ _ _ _ _ _ op_add (@pe_callB _ _ _ _ _ _ _ _ _ (call_len_seqK K) (by exact rfl) T.n_len PyProof.Rows.Boot.«len» (@pa_c _ _ _ _ _ (@pe_ix _ _ _ _ _ _ _ (ix_listK K) (pv 0) pe_int (fun _ _ => rfl)) pa_nil (by rfl)) (by decide) (by decide) (by rfl) (by rfl)) pe_int)) pe_int) pa_nil (by rfl)) (by rfl))) pa_nil (by rfl)) (by rfl) (by rfl) (by rfl) (by rfl) (by rfl) (by rfl)) (by rfl))) pss_nil) (@pss_one _ _ _ (@ps_ret _ _ _ _ (pv 3)))))))), ?_⟩
    refine ⟨fun σ H1 => ∃ b, σ = [some (.ref a), some (.int x), some (.int y), some (.ref b), none, none, none] ∧ Same H H1 ∧ H b = none ∧ H1 b = some (.lst []), ?_, ?_⟩
    · exact ⟨le_line (by simp), fun b hb => ⟨b, rfl, Same.upd hb, hb, upd_same⟩⟩
    rintro σ H1 ⟨b, rfl, s1, hb0, hb1⟩
    refine ⟨fun σ H2 => ∃ (r : Int), σ = [some (.ref a), some (.int x), some (.int y), some (.ref b), some (.int r), none, none] ∧ H2 = H1, ⟨_, rfl, _, rfl, rfl⟩, ?_⟩
    rintro σ H1 ⟨r, rfl, rfl⟩
    refine ⟨fun σ H2 => ∃ (u1 u2 u3 : Option V), σ = [some (.ref a), some (.int x), some (.int y), some (.ref b), u1, u2, u3] ∧ Same H H2 ∧ ∃ xs qs, H2 b = some (.lst xs) ∧ Prs H2 xs qs ∧ qs.length ≤ 25, ?_, ?_⟩
    · have hca := s1 _ _ C1.ca
      refine ⟨_, rfl, a, _, 0, _, rfl, rfl, .of hca, atI_nat (j := 0) rfl, x1, _, rfl, .inl (.of (s1 _ _ C1.fi)), ((c.xs.map V.str).length : Int), rfl, by omega, by omega, ?_⟩
      refine for_range (fun i σ H2 => (∃ (r : Int) (u2 u3 : Option V), σ = [some (.ref a), some (.int x), some (.int y), some (.ref b), some (.int r), u2, u3]) ∧ Same H H2 ∧ ∃ xs qs, H2 b = some (.lst xs) ∧ Prs H2 xs qs ∧ qs.length ≤ i * 5) ⟨⟨_, _, _, rfl⟩, s1, [], [], hb1, .nil, by simp⟩ ?_ ?_
      · rintro i σ H2 hi ⟨⟨r2, u2, u3, rfl⟩, s2, xs, qs, hb2, P2, L2⟩
        have hca := s2 _ _ C1.ca
        refine ⟨_, rfl, a, _, 1, _, rfl, rfl, .of hca, atI_nat (j := 1) rfl, x2, _, rfl, .inl (.of (s2 _ _ C1.se)), ((c.ys.map V.str).length : Int), rfl, by omega, by omega, ?_⟩
        refine for_range (fun j σ H2 => (∃ (r : Int) (u3 : Option V), σ = [some (.ref a), some (.int x), some (.int y), some (.ref b), some (.int r), some (.int (0 + (i : Int))), u3]) ∧ Same H H2 ∧ ∃ xs qs, H2 b = some (.lst xs) ∧ Prs H2 xs qs ∧ qs.length ≤ i * 5 + j) ⟨⟨_, _, rfl⟩, s2, xs, qs, hb2, P2, L2⟩ ?_ ?_
        · clear s2 hb2 P2 L2 xs qs u2 u3 r2 hca H2
          rintro j σ H2 hj ⟨⟨r2, u3, rfl⟩, s2, xs, qs, hb2, P2, L2⟩
          have hl2 := P2.1
          have hi5 : i * 5 ≤ 5 * 5 := Nat.mul_le_mul_right _ (by omega)
          refine ⟨fun σ H3 => σ = [some (.ref a), some (.int x), some (.int y), some (.ref b), some (.int r2), some (.int (0 + (i : Int))), some (.int (0 + (j : Int)))] ∧ Same H H3 ∧ ∃ xs qs, H3 b = some (.lst xs) ∧ Prs H3 xs qs ∧ qs.length ≤ i * 5 + (j + 1), ?_, ?_⟩
          · refine ⟨_, rfl, _, _, rfl, rfl, (show (0 : Int) < 3 by decide), rfl, _, rfl, ?_⟩
            refine ite2 (fun _ => ?_) (fun _ => ⟨rfl, s2, xs, qs, hb2, P2, by omega⟩)
            refine ⟨_, rfl, .inl ⟨rfl, _, .of hb2⟩, _, rfl, _, rfl, le_line (by simp), fun t ht => ⟨b, xs, _, rfl, rfl, Same.upd ht _ _ hb2, lt_line (by omega), rfl, (s2.trans (Same.upd ht)).upd2 hb0, _, qs ++ [(0 + (i : Int), 0 + (j : Int))], upd_same, ?_, by simp; omega⟩⟩
            have P4 : Prs (upd H2 t (.tup (prV (0 + (i : Int), 0 + (j : Int))))) (xs ++ [.ref t]) (qs ++ [(0 + (i : Int), 0 + (j : Int))]) := (P2.same (Same.upd ht)).snoc upd_same
            exact P4.tups (Tups.lst (Same.upd ht _ _ hb2))
          rintro σ H3 ⟨rfl, s3, xs3, qs3, hb3, P3, L3⟩
          exact ⟨_, rfl, _, _, rfl, rfl, ⟨by decide, by decide⟩, ⟨_, _, rfl⟩, s3, xs3, qs3, hb3, P3, L3⟩
        · rintro σ H3 ⟨⟨r3, u4, rfl⟩, s3, xs3, qs3, hb3, P3, L3⟩
          exact ⟨⟨_, _, _, rfl⟩, s3, xs3, qs3, hb3, P3, by omega⟩
      · rintro σ H3 ⟨⟨r3, u4, u5, rfl⟩, s3, xs3, qs3, hb3, P3, L3⟩
        refine ⟨_, _, _, rfl, s3, xs3, qs3, hb3, P3, ?_⟩
        have : ((c.xs.map V.str).length : Int).toNat * 5 ≤ 5 * 5 := Nat.mul_le_mul_right _ (by omega)
        omega
    clear hb1 s1 H1
    rintro σ H1 ⟨u1, u2, u3, rfl, s1, xs, qs, hb1, P1, L1⟩
    have hl1 := P1.1
    refine ⟨fun σ H2 => ∃ b, σ = [some (.ref a), some (.int x), some (.int y), some (.ref b), u1, u2, u3] ∧ Same H H2 ∧ H b = none ∧ ∃ xs qs, H2 b = some (.lst xs) ∧ Prs H2 xs qs ∧ qs.length ≤ 100, ?_, ?_⟩
    · refine ⟨_, rfl, _, _, rfl, rfl, (show (0 : Int) < 4 by decide), rfl, _, rfl, ?_⟩
      refine ite2 (fun _ => ?_) (fun _ => ⟨b, rfl, s1, hb0, xs, qs, hb1, P1, by omega⟩)
      refine ⟨_, rfl, _, rfl, rfl, b, xs, rfl, .of hb1, fun r1 ys hr1 hyl hym => ?_⟩
      have z2 := cutV_length xs none (some 3)
      refine ⟨_, rfl, _, rfl, b, _, rfl, .of (Same.upd hr1 _ _ hb1), fun r2 hr2 => ⟨r1, r2, _, _, rfl, rfl, Same.upd hr2 _ _ upd_same, upd_same, le_line (by omega), fun r3 hr3 => ?_⟩⟩
      have sA := (Same.upd (o := .lst ys) hr1).trans (Same.upd (o := .lst (cutV xs none (some 3))) hr2)
      have sB := sA.trans (Same.upd (o := .lst (ys ++ cutV xs none (some 3))) hr3)
      obtain ⟨ps2, P2⟩ := prs_of (H := H1) (ys := ys ++ cutV xs none (some 3)) fun z hz => by
        rcases List.mem_append.mp hz with hz | hz
        · exact P1.each z (hym z hz)
        · exact P1.each z (List.mem_of_mem_drop (List.mem_of_mem_take hz))
      have hp2 := P2.1
      rw [List.length_append] at hp2
      exact ⟨r3, rfl, s1.trans sB, (s1.trans sA).free hr3, _, ps2, upd_same, P2.same sB, by omega⟩
    clear hb1 P1 L1 hl1 xs qs s1 hb0 b H1
    rintro σ H1 ⟨b, rfl, s1, hb0, xs, qs, hb1, P1, L1⟩
    have hl1 := P1.1
    refine ⟨fun σ H2 => σ = [some (.ref a), some (.int x), some (.int y), some (.ref b), u1, u2, u3] ∧ Same H H2 ∧ ∃ xs qs, H2 b = some (.lst xs) ∧ Prs H2 xs qs ∧ qs.length ≤ 200, ?_, ?_⟩
    · refine ⟨_, rfl, _, _, rfl, rfl, (show (0 : Int) < 4 by decide), rfl, _, rfl, ?_⟩
      refine ite2 (fun _ => ?_) (fun _ => ⟨rfl, s1, xs, qs, hb1, P1, by omega⟩)
      have hca := s1 _ _ C1.ca
      refine ⟨_, rfl, .inl ⟨rfl, _, .of hb1⟩, _, rfl, _, _, rfl, rfl, ⟨by decide, by decide⟩, _, rfl, a, _, 0, _, rfl, rfl, .of hca, atI_nat (j := 0) rfl, x1, _, rfl, .inl (.of (s1 _ _ C1.fi)), _, _, rfl, rfl, _, _, rfl, rfl, (show (0 : Int) < _ by omega), _, _, rfl, rfl, _, rfl, _, _, rfl, rfl, ⟨by decide, by decide⟩, _, rfl, a, _, 1, _, rfl, rfl, .of hca, atI_nat (j := 1) rfl, x2, _, rfl, .inl (.of (s1 _ _ C1.se)), _, _, rfl, rfl, _, _, rfl, rfl, (show (0 : Int) < _ by omega), _, _, rfl, rfl, le_line (by simp), fun t ht => ?_⟩
      refine ⟨b, xs, _, rfl, rfl, Same.upd ht _ _ hb1, lt_line (by omega), rfl, (s1.trans (Same.upd ht)).upd2 hb0, _, qs ++ [(y / 4 % (((c.xs.map V.str).length : Int) + 2) - 1, y / 168 % (((c.ys.map V.str).length : Int) + 2) - 1)], upd_same, ?_, by simp; omega⟩
      exact ((P1.same (Same.upd ht)).snoc (f := (y / 4 % (((c.xs.map V.str).length : Int) + 2) - 1, y / 168 % (((c.ys.map V.str).length : Int) + 2) - 1)) upd_same).tups (Tups.lst (Same.upd ht _ _ hb1))
    rintro σ H2 ⟨rfl, s2, xs2, qs2, hb2, P2, L2⟩
    exact ⟨_, rfl, q H2 b xs2 qs2 s2 hb2 P2 L2⟩
theorem sc__law_terms : FnScope ["_law_case_here", "_law_n"] ["_law_case_here"] (defScope s__law_terms) := ⟨rfl, rfl, rfl, by decide +kernel, rfl, by decide +kernel, by decide +kernel⟩
theorem ok__law_terms {f : Addr} {fd : FuncData} (F : Fun K "_law_terms" "_law_terms" s__law_terms f fd) (T : TB mg) (N6_Terms : IsNew P w K mg base true 5 "Terms" C_Terms ["self", "same", "out", "into", "least", "part", "near"] [] (sp_init C_Terms C_BadTerms C_BadNear)) : FnOk P w K mg base (CXF P w) true 7 f fd ["_law_case_here"] (sp_lterms C_Terms) := by
  refine F.okX sc__law_terms (fun vs H Q E h => ?_) (fun cdv A outer s H vs Q E hr h hX => ?_)
  · obtain ⟨a, c, f, g, m, l, us, most, rfl, _⟩ := h
    rfl
  · obtain ⟨a, c, x1, x2, m, l, us, most, rfl, C1, ok, q⟩ := h
    refine ⟨_, (@pss_cons _ _ _ _ _ (@ps_set _ _ (1) _ _ _ _ sc__law_terms.nd (by exact rfl) (Or.inl rfl) (@pe_ix _ _ _ _ _ _ _ (ix_listK K) (pv 0) pe_int (fun _ _ => rfl)) (by rfl) (by first | exact .inl rfl | exact .inr rfl | assumption)) (@pss_one _ _ _ (@ps_ret _ _ _ _ (@pe_newD _ _ _ _ _ _ _ _ _ _ _ _ _ _ N6_Terms (hr.mono (by decide)) hX.pass (@pa_c _ _ _ _ _ (@pe_ix _ _ _ _ _ _ _ (ix_listK K) (pv 1) pe_int (fun _ _ => rfl)) (@pa_c _ _ _ _ _ (@pe_ix _ _ _ _ _ _ _ (ix_listK K) (pv 1) pe_int (fun _ _ => rfl)) (@pa_c _ _ _ _ _ (@pe_ix _ _ _ _ _ _ _ (ix_listK K) (pv 1) pe_int (fun _ _ => rfl)) (@pa_c _ _ _ _ _ (@pe_ix _ _ _ _ _ _ _ (ix_listK K) (pv 1) pe_int (fun _ _ => rfl)) (@pa_c _ _ _ _ _ pe_int (@pa_c _ _ _ _ _ (@pe_callTy _ _ _ _ _ _ _ _ _ (call_list_ofK K) (by exact rfl) T.n_list PyProof.Rows.Boot.«list» (@pa_c _ _ _ _ _ (@pe_ix _ _ _ _ _ _ _ (ix_listK K) (pv 0) pe_int (fun _ _ => rfl)) pa_nil (by rfl)) (by decide) (by decide) (by rfl) (by rfl)) pa_nil (by rfl)) (by rfl)) (by rfl)) (by rfl)) (by rfl)) (by rfl)) (by rfl) (by decide) (by rfl) (by rfl))))), ?_⟩
    have hnu := C1.nu
    have hca := C1.ca
    refine ⟨_, rfl, a, _, 2, _, rfl, rfl, .of hca, atI_nat (j := 2) rfl, ?_⟩
    refine ⟨_, rfl, m, _, 0, _, rfl, rfl, .of hnu, atI_nat (j := 0) rfl, _, rfl, m, _, 1, _, rfl, rfl, .of hnu, atI_nat (j := 1) rfl, _, rfl, m, _, 2, _, rfl, rfl, .of hnu, atI_nat (j := 2) rfl, _, rfl, m, _, 3, _, rfl, rfl, .of hnu, atI_nat (j := 3) rfl, _, rfl, a, _, 3, _, rfl, rfl, .of hca, atI_nat (j := 3) rfl, l, us, rfl, .inl (.of C1.ne), fun h hh => fun x dx hx hdx hne => ?_⟩
    have s5 : Same (upd H h (.lst us)) (upd (upd (upd H h (.lst us)) dx (.own x)) x (.ins C_Terms dx [])) := (Same.upd hdx).upd2 hx
    have s4 : Same H (upd H h (.lst us)) := Same.upd hh
    refine ⟨x, dx, ⟨c.same, c.out, c.into, c.least, 50⟩, .ref h, us, c.fs, rfl, upd_same, by rw [upd_ne hne]; exact upd_same, .inr ⟨h, rfl, s5 _ _ upd_same, C1.tr.same (s4.trans s5)⟩, good_short ok.good, ?_⟩
    have ok1 : okNums ⟨c.same, c.out, c.into, c.least, 50⟩ = true := by
      have := ok.same
      have := ok.out
      have := ok.into
      have := ok.least
      simp [okNums, inR]
      omega
    rw [if_pos ok1, if_pos ok.good]
    intro H6 l2 d sb T6 hl6 hd6
    exact ⟨rfl, q H6 x (s4.trans (SameBut.of_new hx hdx sb)) ⟨_, dx, l2, d, us, T6, rfl, rfl, rfl, rfl⟩⟩
theorem sc__law_asked : FnScope ["_law_case_here", "_law_terms_here", "_law_shut", "_law_how"] ["_law_case_here", "_law_terms_here", "_law_shut", "_law_how"] (defScope s__law_asked) := ⟨rfl, rfl, rfl, by decide +kernel, rfl, by decide +kernel, by decide +kernel⟩
theorem ok__law_asked {f : Addr} {fd : FuncData} (F : Fun K "_law_asked" "_law_asked" s__law_asked f fd) (T : TB mg) (D3_best_through : IsDefD P w K mg base true 7 "best_through" ["first", "second", "terms", "taken"] [.non] (sp_best C_Terms thruF)) (D4_best_through : IsDefD P w K mg base true 7 "best_through" ["first", "second", "terms", "taken"] [] (sp_best C_Terms thruF)) : FnOk P w K mg base (CXF P w) true 8 f fd ["_law_case_here", "_law_terms_here", "_law_shut", "_law_how"] (sp_asked C_Terms thruF) := by
  refine F.okX sc__law_asked (fun vs H Q E h => ?_) (fun cdv A outer s H vs Q E hr h hX => ?_)
  · obtain ⟨a, t, s0, how, c, f, g, m, l, us, ss, shut, rfl, _⟩ := h
    rfl
  · obtain ⟨a, t, s0, how, c, x1, x2, m, l, us, ss, shut, rfl, C1, TF, hs0, PS, hh, hsl, hxl, hyl, q⟩ := h
    have hca := C1.ca
    refine ⟨_, (@pss_cons _ _ _ _ _ (@ps_if _ _ _ _ _ _ _ _ (@pt_cmpR _ _ _ _ _ _ _ _ op_eq (pv 3) pe_int (nomark _)) (@pss_one _ _ _ (@ps_ret _ _ _ _ (@pe_defD _ _ _ _ _ _ _ _ _ _ _ _ _ D3_best_through (hr.mono (by decide)) passF (@pa_c _ _ _ _ _ (@pe_callTy _ _ _ _ _ _ _ _ _ (call_list_ofK K) (by exact rfl) T.n_list PyProof.Rows.Boot.«list» (@pa_c _ _ _ _ _ (@pe_ix _ _ _ _ _ _ _ (ix_listK K) (pv 0) pe_int (fun _ _ => rfl)) pa_nil (by rfl)) (by decide) (by decide) (by rfl) (by rfl)) (@pa_c _ _ _ _ _ (@pe_callTy _ _ _ _ _ _ _ _ _ (call_list_ofK K) (by exact rfl) T.n_list PyProof.Rows.Boot.«list» (@pa_c _ _ _ _ _ (@pe_ix _ _ _ _ _ _ _ (ix_listK K) (pv 0) pe_int (fun _ _ => rfl)) pa_nil (by rfl)) (by decide) (by decide) (by rfl) (by rfl)) (@pa_c _ _ _ _ _ (pv 1) pa_nil (by rfl)) (by rfl)) (by rfl)) (by rfl) (by decide) (by rfl) (by rfl)))) pss_nil) (@pss_cons _ _ _ _ _ (@ps_if _ _ _ _ _ _ _ _ (@pt_cmpR _ _ _ _ _ _ _ _ op_eq (pv 3) pe_int (nomark _)) (@pss_one _ _ _ (@ps_ret _ _ _ _ (@pe_defD _ _ _ _ _ _ _ _ _ _ _ _ _ D4_best_through (hr.mono (by decide)) passF (@pa_c _ _ _ _ _ (@pe_callTy _ _ _ _ _ _ _ _ _ (call_list_ofK K) (by exact rfl) T.n_list PyProof.Rows.Boot.«list» (@pa_c _ _ _ _ _ (@pe_ix _ _ _ _ _ _ _ (ix_listK K) (pv 0) pe_int (fun _ _ => rfl)) pa_nil (by rfl)) (by decide) (by decide) (by rfl) (by rfl)) (@pa_c _ _ _ _ _ (@pe_callTy _ _ _ _ _ _ _ _ _ (call_list_ofK K) (by exact rfl) T.n_list PyProof.Rows.Boot.«list» (@pa_c _ _ _ _ _ (@pe_ix _ _ _ _ _ _ _ (ix_listK K) (pv 0) pe_int (fun _ _ => rfl)) pa_nil (by rfl)) (by decide) (by decide) (by rfl) (by rfl)) (@pa_c _ _ _ _ _ (pv 1) (@pa_c _ _ _ _ _ pe_non pa_nil (by rfl)) (by rfl)) (by rfl)) (by rfl)) (by rfl) (by decide) (by rfl) (by rfl)))) pss_nil) (@pss_one _ _ _ (@ps_ret _ _ _ _ (@pe_defD _ _ _ _ _ _ _ _ _ _ _ _ _ D4_best_through (hr.mono (by decide)) passF (@pa_c _ _ _ _ _ (@pe_callTy _ _ _ _ _ _ _ _ _ (call_list_ofK K) (by exact rfl) T.n_list PyProof.Rows.Boot.«list» (@pa_c _ _ _ _ _ (@pe_ix _ _ _ _ _ _ _ (ix_listK K) (pv 0) pe_int (fun _ _ => rfl)) pa_nil (by rfl)) (by decide) (by decide) (by rfl) (by rfl)) (@pa_c _ _ _ _ _ (@pe_callTy _ _ _ _ _ _ _ _ _ (call_list_ofK K) (by exact rfl) T.n_list PyProof.Rows.Boot.«list» (@pa_c _ _ _ _ _ (@pe_ix _ _ _ _ _ _ _ (ix_listK K) (pv 0) pe_int (fun _ _ => rfl)) pa_nil (by rfl)) (by decide) (by decide) (by rfl) (by rfl)) (@pa_c _ _ _ _ _ (pv 1) (@pa_c _ _ _ _ _ (@pe_callTy _ _ _ _ _ _ _ _ _ (call_list_ofK K) (by exact rfl) T.n_list PyProof.Rows.Boot.«list» (@pa_c _ _ _ _ _ (pv 2) pa_nil (by rfl)) (by decide) (by decide) (by rfl) (by rfl)) pa_nil (by rfl)) (by rfl)) (by rfl)) (by rfl)) (by rfl) (by decide) (by rfl) (by rfl)))))), ?_⟩
    refine ⟨_, rfl, rfl, _, rfl, ?_⟩
    refine ite2 (fun h1 => ?_) (fun h1 => ?_)
    · have h1 : how = 0 := by simpa using h1
      have e0 := hh (.inl h1)
      subst e0
      refine ⟨_, rfl, a, _, 0, _, rfl, rfl, .of hca, atI_nat (j := 0) rfl, x1, _, rfl, .inl (.of C1.fi), fun f1 hf1 => ?_⟩
      have sa := Same.upd (o := .lst (c.xs.map V.str)) hf1
      have hca := sa _ _ hca
      refine ⟨_, rfl, a, _, 1, _, rfl, rfl, .of hca, atI_nat (j := 1) rfl, x2, _, rfl, .inl (.of (sa _ _ C1.se)), fun f2 hf2 => ?_⟩
      have sb := Same.upd (o := .lst (c.ys.map V.str)) hf2
      have sc := sa.trans sb
      exact ⟨_, rfl, f1, f2, t, .non, c, [], rfl, sb _ _ upd_same, upd_same, TF.keep sc, .inl ⟨rfl, rfl⟩, hsl, hxl, hyl, fun H' e s' Tb => q H' e (sc.trans s') (Tb.older sc)⟩
    refine ⟨_, rfl, rfl, _, rfl, ?_⟩
    refine ite2 (fun h2 => ?_) (fun h2 => ?_)
    · have h2 : how = 1 := by simpa using h2
      have e0 := hh (.inr h2)
      subst e0
      refine ⟨_, rfl, a, _, 0, _, rfl, rfl, .of hca, atI_nat (j := 0) rfl, x1, _, rfl, .inl (.of C1.fi), fun f1 hf1 => ?_⟩
      have sa := Same.upd (o := .lst (c.xs.map V.str)) hf1
      have hca := sa _ _ hca
      refine ⟨_, rfl, a, _, 1, _, rfl, rfl, .of hca, atI_nat (j := 1) rfl, x2, _, rfl, .inl (.of (sa _ _ C1.se)), fun f2 hf2 => ?_⟩
      have sb := Same.upd (o := .lst (c.ys.map V.str)) hf2
      have sc := sa.trans sb
      exact ⟨_, rfl, f1, f2, t, .non, c, [], rfl, sb _ _ upd_same, upd_same, TF.keep sc, .inl ⟨rfl, rfl⟩, hsl, hxl, hyl, fun H' e s' Tb => q H' e (sc.trans s') (Tb.older sc)⟩
    · refine ⟨_, rfl, a, _, 0, _, rfl, rfl, .of hca, atI_nat (j := 0) rfl, x1, _, rfl, .inl (.of C1.fi), fun f1 hf1 => ?_⟩
      have sa := Same.upd (o := .lst (c.xs.map V.str)) hf1
      have hca := sa _ _ hca
      refine ⟨_, rfl, a, _, 1, _, rfl, rfl, .of hca, atI_nat (j := 1) rfl, x2, _, rfl, .inl (.of (sa _ _ C1.se)), fun f2 hf2 => ?_⟩
      have sb := Same.upd (o := .lst (c.ys.map V.str)) hf2
      have sc := sa.trans sb
      refine ⟨_, rfl, _, rfl, s0, ss, rfl, .inl (.of (sc _ _ hs0)), fun f3 hf3 => ?_⟩
      have sd := Same.upd (o := .lst ss) hf3
      have se := sc.trans sd
      exact ⟨f1, f2, t, .ref f3, c, shut, rfl, sd _ _ (sb _ _ upd_same), sd _ _ upd_same, TF.keep se, .inr ⟨f3, ss, rfl, upd_same, PS.same se⟩, hsl, hxl, hyl, fun H' e s' Tb => q H' e (se.trans s') (Tb.older se)⟩
theorem sc_law : FnScope ["_law_script", "_law_case_here", "_law_how", "_law_shut", "_law_ways_here", "_law_worths", "_law_due", "_law_i", "_law_k", "_law_way", "_law_j", "_law_terms_here", "_law_found", "_law_row", "_law_first", "_law_second", "_law_handed"] ["_law_script"] (defScope s_law) := ⟨rfl, rfl, rfl, by decide +kernel, rfl, by decide +kernel, by decide +kernel⟩
theorem ok_law {f : Addr} {fd : FuncData} (F : Fun K "law" "law" s_law f fd) (T : TB mg) (D__law_at : IsDef P w K mg base true 1 "_law_at" ["_law_script", "_law_k"] (sp_at K)) (D__law_case : IsDef P w K mg base true 3 "_law_case" ["_law_script", "_law_most"] (sp_case K)) (D__law_taken : IsDef P w K mg base true 1 "_law_taken" ["_law_case_here", "_law_cell", "_law_other"] sp_ltaken) (D__law_ways : IsDef P w K mg base true 2 "_law_ways" ["_law_case_here", "_law_shut"] sp_lways) (D__law_worth : IsDef P w K mg base true 2 "_law_worth" ["_law_case_here", "_law_way"] sp_lworth) (D__law_terms : IsDef P w K mg base true 7 "_law_terms" ["_law_case_here"] (sp_lterms C_Terms)) (D__law_asked : IsDef P w K mg base true 8 "_law_asked" ["_law_case_here", "_law_terms_here", "_law_shut", "_law_how"] (sp_asked C_Terms thruF)) (D__law_table : IsDef P w K mg base true 2 "_law_table" ["_law_found", "_law_due"] sp_ltable) (D__law_texts : IsDef P w K mg base true 1 "_law_texts" ["_law_found", "_law_due"] sp_texts) (D4_best_through : IsDefD P w K mg base true 7 "best_through" ["first", "second", "terms", "taken"] [] (sp_best C_Terms thruF)) : FnOk P w K mg base (CXF P w) true 10 f fd ["_law_script"] (spLaw K) := by
  refine F.okX sc_law (fun vs H Q E h => ?_) (fun cdv A outer s H vs Q E hr h hX => ?_)
  · obtain ⟨a, ns, rfl, _⟩ := h
    rfl
  · obtain ⟨a, ns, rfl, hS, hlen, q⟩ := h
    have hu := hr.units
    have hu : (A.deeper (PyProof.Rows.envOfC "law" (defScope s_law) s.heap.objs.size f cdv)).units + 1 < cLine := by omega
    have hu0 : (A.deeper (PyProof.Rows.envOfC "law" (defScope s_law) s.heap.objs.size f cdv)).units < cLine := by omega
    refine ⟨_, (@pss_cut _ _ _ _ _ (@ps_set _ _ (1) _ _ _ _ sc_law.nd (by exact rfl) (Or.inr rfl) (@pe_def _ _ _ _ _ _ _ _ _ _ _ _ D__law_case (hr.mono (by decide)) passF (@pa_c _ _ _ _ _ (pv 0) (@pa_c _ _ _ _ _ pe_int pa_nil (by rfl)) (by rfl)) (by rfl) (by decide) (by rfl) (by rfl)) (by rfl) (by first | exact .inl rfl | exact .inr rfl | assumption)) (@pss_cut _ _ _ _ _ (@ps_set _ _ (2) _ _ _ _ sc_law.nd (by exact rfl) (Or.inl rfl) (@pe_op _ _ _ _ _ _ _ _ op_mod (@pe_def _ _ _ _ _ _ _ _ _ _ _ _ D__law_at (hr.mono (by decide)) passF (@pa_c _ _ _ _ _ (pv 0) (@pa_c _ _ _ _ _ pe_int pa_nil (by rfl)) (by rfl)) (by rfl) (by decide) (by rfl) (by rfl)) pe_int) (by rfl) (by first | exact .inl rfl | exact .inr rfl | assumption)) (@pss_cut _ _ _ _ _ (@ps_set _ _ (3) _ _ _ _ sc_law.nd (by exact rfl) (Or.inl rfl) (@pe_lst _ _ _ _ pa_nil) (by rfl) (by first | exact .inl rfl | exact .inr rfl | assumption)) (@pss_cut _ _ _ _ _ (@ps_if _ _ _ _ _ _ _ _ (@pt_cmpR _ _ _ _ _ _ _ _ op_gt (pv 2) pe_int (nomark _)) (@pss_one _ _ _ (@ps_set _ _ (3) _ _ _ _ sc_law.nd (by exact rfl) (Or.inl rfl) (@pe_def _ _ _ _ _ _ _ _ _ _ _ _ D__law_taken (hr.mono (by decide)) passF (@pa_c _ _ _ _ _ (pv 1) (@pa_c _ _ _ _ _ (@pe_def _ _ _ _ _ _ _ _ _ _ _ _ D__law_at (hr.mono (by decide)) passF (@pa_c _ _ _ _ _ (pv 0) (@pa_c _ _ _ _ _ pe_int pa_nil (by rfl)) (by rfl)) (by rfl) (by decide) (by rfl) (by rfl)) (@pa_c _ _ _ _ _ (@pe_def _ _ _ _ _ _ _ _ _ _ _ _ D__law_at (hr.mono (by decide)) passF (@pa_c _ _ _ _ _ (pv 0) (@pa_c _ _ _ _ _ pe_int pa_nil (by rfl)) (by rfl)) (by rfl) (by decide) (by rfl) (by rfl)) pa_nil (by rfl)) (by rfl)) (by rfl)) (by rfl) (by decide) (by rfl) (by rfl)) (by rfl) (by first | exact .inl rfl | exact .inr rfl | assumption))) pss_nil) (@pss_cut _ _ _ _ _ (@ps_set _ _ (4) _ _ _ _ sc_law.nd (by exact rfl) (Or.inl rfl) (@pe_def _ _ _ _ _ _ _ _ _ _ _ _ D__law_ways (hr.mono (by decide)) passF (@pa_c _ _ _ _ _ (pv 1) (@pa_c _ _ _ _ _ (pv 3) pa_nil (by rfl)) (by rfl)) (by rfl) (by decide) (by rfl) (by rfl)) (by rfl) (by first | exact .inl rfl | exact .inr rfl | assumption)) (@pss_cut _ _ _ _ _ (@ps_comp _ _ _ _ _ _ _ _ _ _ _ _ _ _ _ (5) _ _ (by exact rfl) sc_law.nd (by exact rfl) (by exact rfl) (show CompScope ["_law_script", "_law_case_here", "_law_how", "_law_shut", "_law_ways_here", "_law_worths", "_law_due", "_law_i", "_law_k", "_law_way", "_law_j", "_law_terms_here", "_law_found", "_law_row", "_law_first", "_law_second", "_law_handed"] (defScope s_law) _ ["_law_way"] [1] ["_law_case_here"] from ⟨rfl, by decide +kernel, by decide +kernel, by decide +kernel, rfl, rfl, by decide +kernel, by decide +kernel, by decide +kernel⟩) (@pi_listK _ K _ _ _ (pv 4) (by rfl)) (fun _ _ _ _ _ => (@pg_name _ _ (0) _ (show (["_law_way", "_law_case_here"] : List Str).Nodup by decide +kernel) (by exact rfl) (Or.inl rfl) (by first | exact .inl rfl | exact .inr rfl | assumption))) (fun _ _ _ _ _ => pts_nil) (fun _ _ _ _ _ => (@pe_def _ _ _ _ _ _ _ _ _ _ _ _ D__law_worth (hr.mono (by decide)) passF (@pa_c _ _ _ _ _ (pv 1) (@pa_c _ _ _ _ _ (pv 0) pa_nil (by rfl)) (by rfl)) (by rfl) (by decide) (by rfl) (by rfl))) (by rfl) (by intro _; rfl)) (@pss_cut _ _ _ _ _ (@ps_set _ _ (6) _ _ _ _ sc_law.nd (by exact rfl) (Or.inl rfl) (@pe_lst _ _ _ _ pa_nil) (by rfl) (by first | exact .inl rfl | exact .inr rfl | assumption)) (@pss_cut _ _ _ _ _ (@ps_for _ _ _ _ _ _ _ _ hX.own (by exact rfl) (@pi_range1 _ _ _ _ _ _ (by exact rfl) T.n_range (@pa_c _ _ _ _ _ (@pe_callB _ _ _ _ _ _ _ _ _ (call_len_seqK K) (by exact rfl) T.n_len PyProof.Rows.Boot.«len» (@pa_c _ _ _ _ _ (@pe_ix _ _ _ _ _ _ _ (ix_listK K) (pv 1) pe_int (fun _ _ => rfl)) pa_nil (by rfl)) (by decide) (by decide) (by rfl) (by rfl)) pa_nil (by rfl)) (by rfl)) (@pg_name _ _ (7) _ sc_law.nd (by exact rfl) (Or.inl rfl) (by first | exact .inl rfl | exact .inr rfl | assumption)) (@pss_one _ _ _ (@ps_expr _ _ _ _ (@pe_bmK _ K _ _ _ _ _ _ _ _ _ _ _ PySem.F.plainAttrs_list PySem.F.slot_list_append PySem.F.type_list_append mt_append (pv 6) (@pa_c _ _ _ _ _ (@pe_op _ _ _ _ _ _ _ _ op_rep (@pe_lst _ _ _ _ (@pa_c _ _ _ _ _ pe_non pa_nil (by rfl))) (@pe_callB _ _ _ _ _ _ _ _ _ (call_len_seqK K) (by exact rfl) T.n_len PyProof.Rows.Boot.«len» (@pa_c _ _ _ _ _ (@pe_ix _ _ _ _ _ _ _ (ix_listK K) (pv 1) pe_int (fun _ _ => rfl)) pa_nil (by rfl)) (by decide) (by decide) (by rfl) (by rfl))) pa_nil (by rfl)) (by rfl) (by rfl) (by rfl) (by rfl) (by rfl) (by rfl)) (by rfl))) (by intro _; rfl)) (@pss_cut _ _ _ _ _ (@ps_for _ _ _ _ _ _ _ _ hX.own (by exact rfl) (@pi_range1 _ _ _ _ _ _ (by exact rfl) T.n_range (@pa_c _ _ _ _ _ (@pe_callB _ _ _ _ _ _ _ _ _ (call_len_seqK K) (by exact rfl) T.n_len PyProof.Rows.Boot.«len» (@pa_c _ _ _ _ _ (pv 4) pa_nil (by rfl)) (by decide) (by decide) (by rfl) (by rfl)) pa_nil (by rfl)) (by rfl)) (@pg_name _ _ (8) _ sc_law.nd (by exact rfl) (Or.inl rfl) (by first | exact .inl rfl | exact .inr rfl | assumption)) (@pss_cut _ _ _ _ _ (@ps_set _ _ (9) _ _ _ _ sc_law.nd (by exact rfl) (Or.inl rfl) (@pe_ix _ _ _ _ _ _ _ (ix_listK K) (pv 4) (pv 8) (fun _ _ => rfl)) (by rfl) (by first | exact .inl rfl | exact .inr rfl | assumption)) (@pss_one _ _ _ (@ps_for _ _ _ _ _ _ _ _ hX.own (by exact rfl) (@pi_listK _ K _ _ _ (pv 9) (by rfl)) (@pg_tupK _ K _ _ _ (2) _ (by exact rfl) (@pgs_cons _ _ _ _ _ (@pg_name _ _ (7) _ sc_law.nd (by exact rfl) (Or.inl rfl) (by first | exact .inl rfl | exact .inr rfl | assumption)) (@pgs_cons _ _ _ _ _ (@pg_name _ _ (10) _ sc_law.nd (by exact rfl) (Or.inl rfl) (by first | exact .inl rfl | exact .inr rfl | assumption)) pgs_nil (by rfl)) (by rfl)) (by rfl) (by rfl) (by rfl)) (@pss_one _ _ _ (@ps_if _ _ _ _ _ _ _ _ (@PW.pt _ _ _ (@pw_and _ _ _ _ _ _ _ (@pt_cmpR _ _ _ _ _ _ _ _ (op_in_tupsK K hu) (@pe_tup _ _ _ _ _ (@pa_c _ _ _ _ _ (pv 7) (@pa_c _ _ _ _ _ (pv 10) pa_nil (by rfl)) (by rfl))) (pv 9) (by with_unfolding_all rfl)) (@pw_and1 _ _ _ _ (@PW.pt _ _ _ (@pw_or _ _ _ _ _ _ _ (@pt_cmp _ _ _ _ _ _ (@pc_isN _ _ _ _ _ (@pe_ix _ _ _ _ _ _ _ (ix_listK K) (@pe_ix _ _ _ _ _ _ _ (ix_listK K) (pv 6) (pv 7) (fun _ _ => rfl)) (pv 10) (fun _ _ => rfl))) (by first | exact nobehind _ (by decide) (by decide) | rfl)) (@pw_or1 _ _ _ _ (@pt_cmpR _ _ _ _ _ _ _ _ op_lt (@pe_ix _ _ _ _ _ _ _ (ix_listK K) (@pe_ix _ _ _ _ _ _ _ (ix_listK K) (pv 6) (pv 7) (fun _ _ => rfl)) (pv 10) (fun _ _ => rfl)) (@pe_ix _ _ _ _ _ _ _ (ix_listK K) (pv 5) (pv 8) (fun _ _ => rfl)) (nomark _)))))))) (@pss_one _ _ _ (@ps_asg _ _ _ _ _ _ (@pe_ix _ _ _ _ _ _ _ (ix_listK K) (pv 5) (pv 8) (fun _ _ => rfl)) (@pg_sub _ _ _ _ _ _ _ (@pe_ix _ _ _ _ _ _ _ (ix_listK K) (pv 6) (pv 7) (fun _ _ => rfl)) (pv 10) set_list (by intro _; rfl)) (by rfl) (by rfl) (by rfl))) pss_nil)) (by intro _; rfl)))) (by intro _; rfl)) (@pss_cut _ _ _ _ _ (@ps_set _ _ (11) _ _ _ _ sc_law.nd (by exact rfl) (Or.inl rfl) (@pe_def _ _ _ _ _ _ _ _ _ _ _ _ D__law_terms (hr.mono (by decide)) passF (@pa_c _ _ _ _ _ (pv 1) pa_nil (by rfl)) (by rfl) (by decide) (by rfl) (by rfl)) (by rfl) (by first | exact .inl rfl | exact .inr rfl | assumption)) (@pss_cut _ _ _ _ _ (@ps_set _ _ (12) _ _ _ _ sc_law.nd (by exact rfl) (Or.inl rfl) (@pe_def _ _ _ _ _ _ _ _ _ _ _ _ D__law_asked (hr.mono (by decide)) passF (@pa_c _ _ _ _ _ (pv 1) (@pa_c _ _ _ _ _ (pv 11) (@pa_c _ _ _ _ _ (pv 3) (@pa_c _ _ _ _ _ (pv 2) pa_nil (by rfl)) (by rfl)) (by rfl)) (by rfl)) (by rfl) (by decide) (by rfl) (by rfl)) (by rfl) (by first | exact .inl rfl | exact .inr rfl | assumption)) (@pss_cut _ _ _ _ _ (@ps_if _ _ _ _ _ _ _ _ (@pt_not _ _ _ _ (@pt_val _ _ _ (@pe_def _ _ _ _ _ _ _ _ _ _ _ _ D__law_table (hr.mono (by decide)) passF (@pa_c _ _ _ _ _ (pv 12) (@pa_c _ _ _ _ _ (pv 6) pa_nil (by rfl)) (by rfl)) (by rfl) (by decide) (by rfl) (by rfl)) (by intro _; rfl))) (@pss_one _ _ _ (@ps_ret _ _ _ _ pe_bl)) pss_nil) (@pss_cut _ _ _ _ _ (@ps_for _ _ _ _ _ _ _ _ hX.own (by exact rfl) (@pi_listK _ K _ _ _ (pv 12) (by rfl)) (@pg_name _ _ (13) _ sc_law.nd (by exact rfl) (Or.inl rfl) (by first | exact .inl rfl | exact .inr rfl | assumption)) (@pss_one _ _ _ (@ps_expr _ _ _ _ (@pe_bmK _ K _ _ _ _ _ _ _ _ _ _ _ PySem.F.plainAttrs_list PySem.F.slot_list_append PySem.F.type_list_append mt_append (pv 13) (@pa_c _ _ _ _ _ pe_int pa_nil (by rfl)) (by rfl) (by rfl) (by rfl) (by rfl) (by rfl) (by rfl)) (by rfl))) (by intro _; rfl)) (@pss_cut _ _ _ _ _ (@ps_set _ _ (14) _ _ _ _ sc_law.nd (by exact rfl) (Or.inl rfl) (@pe_callTy _ _ _ _ _ _ _ _ _ (call_list_ofK K) (by exact rfl) T.n_list PyProof.Rows.Boot.«list» (@pa_c _ _ _ _ _ (@pe_ix _ _ _ _ _ _ _ (ix_listK K) (pv 1) pe_int (fun _ _ => rfl)) pa_nil (by rfl)) (by decide) (by decide) (by rfl) (by rfl)) (by rfl) (by first | exact .inl rfl | exact .inr rfl | assumption)) (@pss_cut _ _ _ _ _ (@ps_set _ _ (15) _ _ _ _ sc_law.nd (by exact rfl) (Or.inl rfl) (@pe_callTy _ _ _ _ _ _ _ _ _ (call_list_ofK K) (by exact rfl) T.n_list PyProof.Rows.Boot.«list» (@pa_c _ _ _ _ _ (@pe_ix _ _ _ _ _ _ _ (ix_listK K) (pv 1) pe_int (fun _ _ => rfl)) pa_nil (by rfl)) (by decide) (by decide) (by rfl) (by rfl)) (by rfl) (by first | exact .inl rfl | exact .inr rfl | assumption)) (@pss_cut _ _ _ _ _ (@ps_set _ _ (16) _ _ _ _ sc_law.nd (by exact rfl) (Or.inl rfl) (@pe_callTy _ _ _ _ _ _ _ _ _ (call_list_ofK K) (by exact rfl) T.n_list PyProof.Rows.Boot.«list» (@pa_c _ _ _ _ _ (pv 3) pa_nil (by rfl)) (by decide) (by decide) (by rfl) (by rfl)) (by rfl) (by first | exact .inl rfl | exact .inr rfl | assumption)) (@pss_cut _ _ _ _ _ (@ps_set _ _ (12) _ _ _ _ sc_law.nd (by exact rfl) (Or.inl rfl) (@pe_defD _ _ _ _ _ _ _ _ _ _ _ _ _ D4_best_through (hr.mono (by decide)) passF (@pa_c _ _ _ _ _ (pv 14) (@pa_c _ _ _ _ _ (pv 15) (@pa_c _ _ _ _ _ (pv 11) (@pa_c _ _ _ _ _ (pv 16) pa_nil (by rfl)) (by rfl)) (by rfl)) (by rfl)) (by rfl) (by decide) (by rfl) (by rfl)) (by rfl) (by first | exact .inl rfl | exact .inr rfl | assumption)) (@pss_cut _ _ _ _ _ (@ps_if _ _ _ _ _ _ _ _ (@PW.pt _ _ _ (@pw_or _ _ _ _ _ _ _ (@pt_not _ _ _ _ (@pt_val _ _ _ (@pe_def _ _ _ _ _ _ _ _ _ _ _ _ D__law_texts (hr.mono (by decide)) passF (@pa_c _ _ _ _ _ (pv 14) (@pa_c _ _ _ _ _ (@pe_ix _ _ _ _ _ _ _ (ix_listK K) (pv 1) pe_int (fun _ _ => rfl)) pa_nil (by rfl)) (by rfl)) (by rfl) (by decide) (by rfl) (by rfl)) (by intro _; rfl))) (@pw_or _ _ _ _ _ _ _ (@pt_not _ _ _ _ (@pt_val _ _ _ (@pe_def _ _ _ _ _ _ _ _ _ _ _ _ D__law_texts (hr.mono (by decide)) passF (@pa_c _ _ _ _ _ (pv 15) (@pa_c _ _ _ _ _ (@pe_ix _ _ _ _ _ _ _ (ix_listK K) (pv 1) pe_int (fun _ _ => rfl)) pa_nil (by rfl)) (by rfl)) (by rfl) (by decide) (by rfl) (by rfl)) (by intro _; rfl))) (@pw_or1 _ _ _ _ (@pt_cmpR _ _ _ _ _ _ _ _ (op_ne_listK K hu0) (pv 16) (pv 3) (nomark _)))))) (@pss_one _ _ _ (@ps_ret _ _ _ _ pe_bl)) pss_nil) (@pss_one _ _ _ (@ps_ret _ _ _ _ (@pe_def _ _ _ _ _ _ _ _ _ _ _ _ D__law_table (hr.mono (by decide)) passF (@pa_c _ _ _ _ _ (pv 12) (@pa_c _ _ _ _ _ (pv 6) pa_nil (by rfl)) (by rfl)) (by rfl) (by decide) (by rfl) (by rfl)))))))))))))))))))))), ?_⟩
    refine ⟨fun σ H1 => ∃ (b : Addr) (c : Case) (x1 x2 m l : Addr) (us : List V), σ = [some (.ref a), some (.ref b), none, none, none, none, none, none, none, none, none, none, none, none, none, none, none] ∧ Same H H1 ∧ CaseL H1 b c x1 x2 m l us ∧ CaseOk 5 c, ?_, ?_⟩
    · exact ⟨_, rfl, a, ns, 5, rfl, hS, by decide, by decide, fun H1 b c x1 x2 m l us s1 hb C1 ok => ⟨b, c, x1, x2, m, l, us, rfl, s1, C1, ok⟩⟩
    rintro σ H1 ⟨b, c, x1, x2, m, l, us, rfl, s1, C1, ok⟩
    have hS1 := s1.seq hS
    have okx := ok.x
    have oky := ok.y
    have no := ok.num
    have lx : (c.xs.map V.str).length = c.xs.length := List.length_map ..
    have ly : (c.ys.map V.str).length = c.ys.length := List.length_map ..
    refine ⟨fun σ H2 => ∃ how : Int, σ = [some (.ref a), some (.ref b), some (.int how), none, none, none, none, none, none, none, none, none, none, none, none, none, none] ∧ H2 = H1, ?_, ?_⟩
    · exact ⟨_, rfl, a, ns, 12, rfl, hS1, by decide, _, _, rfl, rfl, (show (0 : Int) < 5 by decide), _, rfl, rfl⟩
    rintro σ H1 ⟨how, rfl, rfl⟩
    refine ⟨fun σ H2 => ∃ sh, σ = [some (.ref a), some (.ref b), some (.int how), some (.ref sh), none, none, none, none, none, none, none, none, none, none, none, none, none] ∧ Same H1 H2 ∧ H2 sh = some (.lst []), ?_, ?_⟩
    · exact ⟨le_line (by simp), fun sh hsh => ⟨sh, rfl, Same.upd hsh, upd_same⟩⟩
    rintro σ H2 ⟨sh0, rfl, s2, hs0⟩
    refine ⟨fun σ H3 => ∃ (sh : Addr) (ss : List V) (shut : List Pr), σ = [some (.ref a), some (.ref b), some (.int how), some (.ref sh), none, none, none, none, none, none, none, none, none, none, none, none, none] ∧ Same H1 H3 ∧ H3 sh = some (.lst ss) ∧ Prs H3 ss shut ∧ shut.length ≤ 200 ∧ ((how = 0 ∨ how = 1) → shut = []), ?_, ?_⟩
    · refine ⟨_, rfl, _, _, rfl, rfl, _, rfl, ?_⟩
      refine ite2 (fun h1 => ?_) (fun _ => ⟨sh0, [], [], rfl, s2, hs0, .nil, by simp, fun _ => rfl⟩)
      have h1 : 1 < how := by simpa using h1
      exact ⟨_, rfl, _, rfl, a, ns, 13, rfl, s2.seq hS1, by decide, _, rfl, a, ns, 14, rfl, s2.seq hS1, by decide, b, _, _, c, x1, x2, m, l, us, rfl, C1.keep s2, okx, oky, fun H3 sh ss ps s3 hsh P3 L3 => ⟨sh, ss, ps, rfl, s2.trans s3, hsh, P3, L3, fun z => by omega⟩⟩
    clear hs0 s2 sh0 H2
    rintro σ H2 ⟨sh, ss, shut, rfl, s2, hsh, PS, hsl, hhow⟩
    have C2 := C1.keep s2
    refine ⟨fun σ H3 => ∃ (w : Addr) (ws : List V) (L : List (List Pr)), σ = [some (.ref a), some (.ref b), some (.int how), some (.ref sh), some (.ref w), none, none, none, none, none, none, none, none, none, none, none, none] ∧ Same H2 H3 ∧ H3 w = some (.lst ws) ∧ WaysL H3 ws L ∧ L.length ≤ 50000 ∧ ∀ ps, ps ∈ L ↔ OWay c shut ps, ?_, ?_⟩
    · exact ⟨_, rfl, _, rfl, b, sh, c, x1, x2, m, l, us, ss, shut, rfl, C2, hsh, PS, by omega, okx, oky, fun H3 w ws L s3 hw W3 L3 hL => ⟨w, ws, L, rfl, s3, hw, W3, L3, hL⟩⟩
    rintro σ H3 ⟨w, ws, L, rfl, s3, hw, WL, hLl, hL⟩
    have C3 := C2.keep s3
    have hwl := WL.1
    refine ⟨fun σ H4 => ∃ (wl : Addr), σ = [some (.ref a), some (.ref b), some (.int how), some (.ref sh), some (.ref w), some (.ref wl), none, none, none, none, none, none, none, none, none, none, none] ∧ Same H3 H4 ∧ H4 wl = some (.lst ((L.map (wW c)).map V.int)), ?_, ?_⟩
    · refine ⟨_, rfl, w, rfl, ⟨_, .of hw⟩, fun D hD => ?_⟩
      refine comp_list (xs := ws) (fun k ys σ' H4 => (∃ u, σ' = [u, some (.ref b)]) ∧ ys = ((L.take k).map (wW c)).map V.int ∧ H4 D = some (.lst ys) ∧ Same H3 H4) ⟨⟨_, rfl⟩, rfl, upd_same, Same.upd hD⟩ ?_ ?_ ?_
      · rintro k ys σ' H4 _ ⟨_, _, _, s4⟩
        exact .of (s4 _ _ hw)
      · rintro k v ys σ' H4 hv ⟨⟨u, rfl⟩, rfl, hD4, s4⟩
        have hk : k < L.length := by rw [← hwl]; exact (List.getElem?_eq_some_iff.mp hv).1
        have ek : L[k]? = some L[k] := by simp [hk]
        generalize L[k] = ps at ek
        obtain ⟨wa, wus, ha1, ha2, PW⟩ := (WL.same s4).2 k ps ek
        rw [hv] at ha1
        cases ha1
        have ow := (hL ps).mp (List.mem_of_getElem? ek)
        have hpl := ow.len
        refine gN_yes ?_
        refine ⟨_, rfl, _, rfl, b, wa, c, x1, x2, m, l, us, wus, ps, rfl, C3.keep s4, no, ha2, PW, by omega, ow.1, hD4, lt_line ?_, ⟨_, rfl⟩, ?_, upd_same, s4.upd2 hD⟩
        · simp
          omega
        · rw [List.take_succ, ek]
          simp [wW]
      · rintro ys σ' H4 ⟨_, rfl, hD4, s4⟩
        rw [hwl, List.take_length] at hD4
        exact ⟨D, rfl, s4, hD4⟩
    rintro σ H4 ⟨wl, rfl, s4, hwl4⟩
    have C4 := C3.keep s4
    have W4 := WL.same s4
    have hw4 := s4 _ _ hw
    -- the table of what is due
    refine ⟨fun σ H5 => ∃ D, σ = [some (.ref a), some (.ref b), some (.int how), some (.ref sh), some (.ref w), some (.ref wl), some (.ref D), none, none, none, none, none, none, none, none, none, none] ∧ Same H4 H5 ∧ H4 D = none ∧ H5 D = some (.lst []), ?_, ?_⟩
    · exact ⟨le_line (by simp), fun D hD => ⟨D, rfl, Same.upd hD, hD, upd_same⟩⟩
    rintro σ H5 ⟨D, rfl, s5, hD0, hD5⟩
    refine ⟨fun σ H6 => ∃ (u1 : Option V) (as : List Addr), σ = [some (.ref a), some (.ref b), some (.int how), some (.ref sh), some (.ref w), some (.ref wl), some (.ref D), u1, none, none, none, none, none, none, none, none, none] ∧ Same H4 H6 ∧ DueT H4 H6 D as (fun _ => none) c.xs.length c.ys.length, ?_, ?_⟩
    · have hca := s5 _ _ C4.ca
      refine ⟨_, rfl, b, _, 0, _, rfl, rfl, .of hca, atI_nat (j := 0) rfl, x1, _, rfl, .inl (.of (s5 _ _ C4.fi)), ((c.xs.map V.str).length : Int), rfl, by omega, by omega, ?_⟩
      refine for_range (fun i σ H6 => (∃ (u1 : Option V) (as : List Addr), σ = [some (.ref a), some (.ref b), some (.int how), some (.ref sh), some (.ref w), some (.ref wl), some (.ref D), u1, none, none, none, none, none, none, none, none, none] ∧ DueT H4 H6 D as (fun _ => none) i c.ys.length) ∧ Same H4 H6) ⟨⟨_, [], rfl, hD5, hD0, .nil, by simp, (fun a h => by cases h), rfl, fun i a h => by simp at h⟩, s5⟩ ?_ ?_
      · rintro i σ H6 hi ⟨⟨u1, as, rfl, dt⟩, s6⟩
        have hca := s6 _ _ C4.ca
        have hal := dt.tab.len
        refine ⟨_, rfl, .inl ⟨rfl, _, .of dt.d⟩, le_line (by simp), fun l1 hl1 => ?_⟩
        have sA := Same.upd (o := .lst [.non]) hl1
        have hca := sA _ _ hca
        refine ⟨_, rfl, b, _, 1, _, rfl, rfl, .of hca, atI_nat (j := 1) rfl, x2, _, rfl, .inl (.of (sA _ _ (s6 _ _ C4.se))), l1, _, _, rfl, rfl, upd_same, by omega, by omega, le_line (by simp; omega), fun r hr1 => ?_⟩
        have sB := sA.trans (Same.upd (o := .lst (List.replicate ((c.ys.map V.str).length : Int).toNat [V.non]).flatten) hr1)
        have hr6 : H6 r = none := sA.free hr1
        have nrD : r ≠ D := Ne.symm (ne_of_none dt.d hr6)
        refine ⟨D, _, _, rfl, rfl, sB _ _ dt.d, lt_line (by rw [List.length_map]; omega), ⟨_, as ++ [r], rfl, ?_⟩, (s6.trans sB).upd2 hD0⟩
        have nra : ∀ x ∈ as, x ≠ r := fun x hx z => by
          obtain ⟨k, hk, e⟩ := List.mem_iff_getElem.mp hx
          have := dt.tab.row k x (by rw [← e]; simp [hk])
          rw [z, hr6] at this; cases this
        refine ⟨by rw [upd_same]; simp, hD0, ?_, ?_, fun x hx => ?_, by simp [hal], fun k x hk => ?_⟩
        · refine List.nodup_append.mpr ⟨dt.nd, by simp, fun x hx y hy => ?_⟩
          have : y = r := by simpa using hy
          rw [this]; exact nra x hx
        · intro hm
          rcases List.mem_append.mp hm with hm | hm
          · exact dt.nD hm
          · have hm : D = r := by simpa using hm
            exact nrD hm.symm
        · rcases List.mem_append.mp hx with hx | hx
          · exact dt.fr x hx
          · have : x = r := by simpa using hx
            rw [this]; exact s6.free hr6
        · by_cases h : k < i
          · rw [List.getElem?_append_left (by omega)] at hk
            have nx : x ≠ D := fun z => dt.nD (z ▸ List.mem_of_getElem? hk)
            rw [upd_ne nx]
            exact sB _ _ (dt.tab.row k x hk)
          · rw [List.getElem?_append_right (by omega)] at hk
            have hk0 : k - as.length = 0 := by
              have := (List.getElem?_eq_some_iff.mp hk).1
              simp at this
              omega
            rw [hk0] at hk
            have : r = x := by simpa using hk
            subst this
            rw [upd_ne nrD, upd_same]
            congr 2
            apply List.ext_getElem?
            intro z
            by_cases hz : z < c.ys.length
            · rw [rowV_at hz]
              have hz2 : z < ((c.ys.map V.str).length : Int).toNat := by omega
              simp only [optV]
              rw [List.getElem?_eq_getElem (by simp; omega)]
              simp
            · rw [List.getElem?_eq_none (by simp; omega), List.getElem?_eq_none (by rw [rowV_len]; omega)]
      · rintro σ H6 ⟨⟨u1, as, rfl, dt⟩, s6⟩
        have e : ((c.xs.map V.str).length : Int).toNat = c.xs.length := by omega
        rw [e] at dt
        exact ⟨u1, as, rfl, s6, dt⟩
    clear hD5 s5 H5
    rintro σ H5 ⟨u1, as, rfl, s5, dt0⟩
    refine ⟨fun σ H6 => ∃ (u1 u2 u3 u4 : Option V) (F : Pr → Option Int), σ = [some (.ref a), some (.ref b), some (.int how), some (.ref sh), some (.ref w), some (.ref wl), some (.ref D), u1, u2, u3, u4, none, none, none, none, none, none] ∧ Same H4 H6 ∧ DueT H4 H6 D as F c.xs.length c.ys.length ∧ Due c (fun ps p => decide (p ∈ ps)) L L.length 0 F, ?_, ?_⟩
    · refine ⟨_, rfl, w, _, rfl, .inl (.of (s5 _ _ hw4)), (ws.length : Int), rfl, by omega, by omega, ?_⟩
      refine for_range (fun k σ H6 => (∃ (u1 u2 u3 u4 : Option V) (F : Pr → Option Int), σ = [some (.ref a), some (.ref b), some (.int how), some (.ref sh), some (.ref w), some (.ref wl), some (.ref D), u1, u2, u3, u4, none, none, none, none, none, none] ∧ DueT H4 H6 D as F c.xs.length c.ys.length ∧ Due c (fun ps p => decide (p ∈ ps)) L k 0 F) ∧ Same H4 H6) ⟨⟨_, _, _, _, _, rfl, dt0, .nil⟩, s5⟩ ?_ ?_
      · rintro k σ H6 hk ⟨⟨v1, v2, v3, v4, F, rfl, dt, du⟩, s6⟩
        have hk : k < L.length := by omega
        have ek : L[k]? = some L[k] := by simp [hk]
        generalize L[k] = ps at ek
        obtain ⟨wa, wus, ha1, ha2, PW⟩ := W4.2 k ps ek
        have ow := (hL ps).mp (List.mem_of_getElem? ek)
        have hne := (isWay_good ow.1).1
        have hpl := PW.1
        have hwat : ((L.map (wW c)).map V.int)[k]? = some (.int (wW c ps)) := by simp [ek]
        refine ⟨fun σ H7 => σ = [some (.ref a), some (.ref b), some (.int how), some (.ref sh), some (.ref w), some (.ref wl), some (.ref D), v1, some (.int (0 + (k : Int))), some (.ref wa), v4, none, none, none, none, none, none] ∧ H7 = H6, ?_, ?_⟩
        · exact ⟨_, rfl, _, rfl, w, _, _, _, rfl, rfl, .of (s6 _ _ hw4), at0 ha1, rfl, rfl⟩
        rintro σ H6 ⟨rfl, rfl⟩
        refine ⟨_, rfl, wa, rfl, ⟨_, .of (s6 _ _ ha2)⟩, ?_⟩
        refine for_list (xs := wus) (fun t σ H7 => (∃ (v1 v4 : Option V) (F : Pr → Option Int), σ = [some (.ref a), some (.ref b), some (.int how), some (.ref sh), some (.ref w), some (.ref wl), some (.ref D), v1, some (.int (0 + (k : Int))), some (.ref wa), v4, none, none, none, none, none, none] ∧ DueT H4 H7 D as F c.xs.length c.ys.length ∧ Due c (fun ps p => decide (p ∈ ps)) L k t F) ∧ Same H4 H7) ⟨⟨_, _, F, rfl, dt, du⟩, s6⟩ ?_ ?_ ?_
        · rintro t σ H7 _ ⟨_, s7⟩
          exact .of (s7 _ _ ha2)
        · clear dt du s6 F v1 v4 H6
          rintro t v σ H7 hv ⟨⟨v1, v4, F, rfl, dt, du⟩, s7⟩
          have ht : t < ps.length := by rw [← hpl]; exact (List.getElem?_eq_some_iff.mp hv).1
          have epr := pr_at ht
          obtain ⟨b1, b2⟩ := ow.pair_in ht
          have PW7 := PW.same s7
          obtain ⟨tt, ht1, ht2⟩ := PW7.atN ht
          rw [hv] at ht1
          cases ht1
          obtain ⟨⟨pi, pj⟩, epq⟩ : ∃ q, pr ps t = q := ⟨_, rfl⟩
          rw [epq] at b1 b2 ht2 epr
          obtain ⟨ni, rfl⟩ := Int.eq_ofNat_of_zero_le b1.1
          obtain ⟨nj, rfl⟩ := Int.eq_ofNat_of_zero_le b2.1
          have hni : ni < c.xs.length := by have := b1.2; simp only at this; omega
          have hnj : nj < c.ys.length := by have := b2.2; simp only at this; omega
          refine ⟨tt, _, rfl, .of ht2, rfl, _, _, rfl, _, _, rfl, rfl, ?_⟩
          refine ⟨_, rfl, _, rfl, le_line (by simp), fun p hp => ?_⟩
          have s8 : Same H7 (upd H7 p (.tup [.int (ni : Int), .int (nj : Int)])) := Same.upd hp
          refine ⟨_, rfl, p, wa, [.int (ni : Int), .int (nj : Int)], wus, ps.map prV, rfl, rfl, .of upd_same, rfl, .of (s8 _ _ (s7 _ _ ha2)), (PW7.same s8).tl, PW7.noRef hp, _, rfl, ?_⟩
          have eqd : ((ps.map prV).any fun c => eqTs c [.int (ni : Int), .int (nj : Int)]) = decide (((ni : Int), (nj : Int)) ∈ ps) := any_prV ps ((ni : Int), (nj : Int))
          rw [eqd]
          have dt8 := dt.same s8
          have s9 := s7.trans s8
          generalize upd H7 p (.tup [.int (ni : Int), .int (nj : Int)]) = H8 at s8 dt8 s9
          refine ite2 (fun h1 => ?_) (fun h1 => ?_)
          rotate_left
          · have h1 : decide (((ni : Int), (nj : Int)) ∈ ps) = false := by simpa using h1
            refine iteF ?_
            exact ⟨⟨_, _, F, rfl, dt8, du.skip ek epr h1⟩, s9⟩
          obtain ⟨ra, hra1, hra2, hra3⟩ := dt8.tab.at hni
          have atD := atI_nat (xs := as.map V.ref) hra2
          have atR : atI (rowV c.ys.length fun j => F ((ni : Int), (j : Int))) (nj : Int) = some (optV (F ((ni : Int), (nj : Int)))) := atI_nat (rowV_at hnj)
          have fin : bumpO (F ((ni : Int), (nj : Int))) (wW c ps) = some (wW c ps) → DueT H4 (upd H8 ra (.lst ((rowV c.ys.length fun j => F ((ni : Int), (j : Int))).set nj (.int (wW c ps))))) D as (setP F ((ni : Int), (nj : Int)) (some (wW c ps))) c.xs.length c.ys.length ∧ Due c (fun ps p => decide (p ∈ ps)) L k (t + 1) (setP F ((ni : Int), (nj : Int)) (some (wW c ps))) := fun hb => by
            refine ⟨dt8.put (u := some (wW c ps)) hra1, ?_⟩
            have := du.put ek epr h1
            rw [hb] at this
            exact this
          refine ⟨_, rfl, _, rfl, D, _, _, _, rfl, rfl, .of dt8.d, atD, _, rfl, ra, _, _, _, rfl, rfl, .of hra3, atR, _, rfl, ?_⟩
          cases eF : F ((ni : Int), (nj : Int)) with
          | none =>
            rw [eF] at fin
            obtain ⟨d1, d2⟩ := fin rfl
            refine ite2 (fun _ => ?_) (fun hh => absurd (by simp [optV]) hh)
            refine iteT ?_
            exact ⟨_, rfl, _, rfl, wl, _, _, _, rfl, rfl, .of (s9 _ _ hwl4), at0 hwat, _, rfl, _, rfl, D, _, _, _, rfl, rfl, .of dt8.d, atD, _, rfl, ra, _, _, nj, rfl, rfl, hra3, ixN_nat (by rw [rowV_len]; exact hnj), ⟨_, _, _, rfl, d1, d2⟩, dt8.fresh s9 hra1⟩
          | some mv =>
            rw [eF] at fin atR
            refine ite2 (fun hh => absurd hh (by simp [optV])) (fun _ => ?_)
            refine ⟨_, rfl, _, rfl, D, _, _, _, rfl, rfl, .of dt8.d, atD, _, rfl, ra, _, _, _, rfl, rfl, .of hra3, atR, _, rfl, _, rfl, wl, _, _, _, rfl, rfl, .of (s9 _ _ hwl4), at0 hwat, _, _, rfl, rfl, _, rfl, ?_⟩
            refine ite2 (fun h2 => ?_) (fun h2 => ?_)
            · have h2 : mv < wW c ps := by simpa using h2
              obtain ⟨d1, d2⟩ := fin (by simp [bumpO, h2])
              exact ⟨_, rfl, _, rfl, wl, _, _, _, rfl, rfl, .of (s9 _ _ hwl4), at0 hwat, _, rfl, _, rfl, D, _, _, _, rfl, rfl, .of dt8.d, atD, _, rfl, ra, _, _, nj, rfl, rfl, hra3, ixN_nat (by rw [rowV_len]; exact hnj), ⟨_, _, _, rfl, d1, d2⟩, dt8.fresh s9 hra1⟩
            · have h2 : ¬ mv < wW c ps := by simpa using h2
              exact ⟨⟨_, _, F, rfl, dt8, du.same ek epr eF h2 h1⟩, s9⟩
        · rintro σ H7 ⟨⟨v1, v4, F, rfl, dt, du⟩, s7⟩
          rw [hpl] at du
          exact ⟨⟨_, _, _, _, F, rfl, dt, du.next ek⟩, s7⟩
      · rintro σ H6 ⟨⟨v1, v2, v3, v4, F, rfl, dt, du⟩, s6⟩
        have e : ((ws.length : Nat) : Int).toNat = L.length := by omega
        rw [e] at du
        exact ⟨v1, v2, v3, v4, F, rfl, s6, dt, du⟩
    clear dt0 s5 H5
    rintro σ H5 ⟨v1, v2, v3, v4, F, rfl, s5, dt, du⟩
    have dtab := dt.tab.congr (due_thru hL du)
    have hD5 := dt.d
    have C5 := C4.keep s5
    have sS := s3.trans (s4.trans s5)
    refine ⟨fun σ H6 => ∃ t, σ = [some (.ref a), some (.ref b), some (.int how), some (.ref sh), some (.ref w), some (.ref wl), some (.ref D), v1, v2, v3, v4, some (.ref t), none, none, none, none, none] ∧ Same H5 H6 ∧ TFor H6 C_Terms t c, ?_, ?_⟩
    · exact ⟨_, rfl, b, c, x1, x2, m, l, us, 5, rfl, C5, ok, fun H6 t s6 T6 => ⟨t, rfl, s6, T6⟩⟩
    rintro σ H6 ⟨t, rfl, s6, T6⟩
    have sT := sS.trans s6
    refine ⟨fun σ H7 => ∃ e, σ = [some (.ref a), some (.ref b), some (.int how), some (.ref sh), some (.ref w), some (.ref wl), some (.ref D), v1, v2, v3, v4, some (.ref t), some (.ref e), none, none, none, none] ∧ Same H6 H7 ∧ Tab H6 H7 e (thruF c shut) c.xs.length c.ys.length, ?_, ?_⟩
    · exact ⟨_, rfl, _, rfl, _, rfl, _, rfl, b, t, sh, how, c, x1, x2, m, l, us, ss, shut, rfl, C5.keep s6, T6, sT _ _ hsh, PS.same sT, hhow, by omega, by omega, by omega, fun H7 e s7 Tb => ⟨e, rfl, s7, Tb⟩⟩
    rintro σ H7 ⟨e, rfl, s7, es, he7, he0, TE, hen⟩
    refine ⟨fun σ H8 => σ = [some (.ref a), some (.ref b), some (.int how), some (.ref sh), some (.ref w), some (.ref wl), some (.ref D), v1, v2, v3, v4, some (.ref t), some (.ref e), none, none, none, none] ∧ H8 = H7, ?_, ?_⟩
    · refine ⟨_, rfl, _, rfl, e, D, es, as, thruF c shut, c.xs.length, c.ys.length, rfl, he7, s7 _ _ (s6 _ _ hD5), TE, (dtab.same s6).same s7, by omega, by omega, _, rfl, ?_⟩
      refine iteF ?_
      exact ⟨rfl, rfl⟩
    rintro σ H7 ⟨rfl, rfl⟩
    have nee := Tab.ne he7 TE
    refine ⟨fun σ H8 => (∃ u, σ = [some (.ref a), some (.ref b), some (.int how), some (.ref sh), some (.ref w), some (.ref wl), some (.ref D), v1, v2, v3, v4, some (.ref t), some (.ref e), u, none, none, none]) ∧ Same H6 H8, ?_, ?_⟩
    · refine ⟨_, rfl, e, rfl, ⟨_, .of he7⟩, ?_⟩
      refine for_list (xs := es.map V.ref) (fun i σ H8 => (∃ u, σ = [some (.ref a), some (.ref b), some (.int how), some (.ref sh), some (.ref w), some (.ref wl), some (.ref D), v1, v2, v3, v4, some (.ref t), some (.ref e), u, none, none, none]) ∧ Same H6 H8 ∧ H8 e = some (.lst (es.map V.ref)) ∧ ∀ a ∈ es, ∃ zs, H8 a = some (.lst zs) ∧ zs.length ≤ 100 + i) ⟨⟨_, rfl⟩, s7, he7, fun a ha => ?_⟩ ?_ ?_ ?_
      · obtain ⟨k, hk, ea⟩ := List.mem_iff_getElem.mp ha
        exact ⟨_, TE.row k a (by rw [← ea]; simp [hk]), by rw [rowV_len]; omega⟩
      · rintro i σ H8 _ ⟨_, _, he8, _⟩
        exact .of he8
      · rintro i v σ H8 hv ⟨⟨u, rfl⟩, s8, he8, hz⟩
        have hi : i < es.length := by have := (List.getElem?_eq_some_iff.mp hv).1; rw [List.length_map] at this; exact this
        have hel := TE.len
        have ev : v = .ref es[i] := by
          rw [List.getElem?_map, List.getElem?_eq_getElem hi] at hv
          exact (Option.some.inj hv).symm
        subst ev
        have hm : es[i] ∈ es := List.getElem_mem hi
        generalize es[i] = x at hm
        obtain ⟨zs, hx8, hzl⟩ := hz x hm
        refine ⟨_, rfl, .inl ⟨rfl, _, .of hx8⟩, x, zs, _, rfl, rfl, hx8, lt_line (by omega), ⟨_, rfl⟩, s8.upd2 (hen x hm), by rw [upd_ne (Ne.symm (nee x hm))]; exact he8, fun y hy => ?_⟩
        by_cases hyx : y = x
        · subst hyx
          exact ⟨_, upd_same, by simp; omega⟩
        · obtain ⟨z2, h1, h2⟩ := hz y hy
          exact ⟨z2, by rw [upd_ne hyx]; exact h1, by omega⟩
      · rintro σ H8 ⟨⟨u, rfl⟩, s8, _⟩
        exact ⟨⟨_, rfl⟩, s8⟩
    rintro σ H8 ⟨⟨u, rfl⟩, s8⟩
    have sU := sT.trans s8
    have C8 := (C5.keep s6).keep s8
    have hca := C8.ca
    refine ⟨fun σ H9 => ∃ f1, σ = [some (.ref a), some (.ref b), some (.int how), some (.ref sh), some (.ref w), some (.ref wl), some (.ref D), v1, v2, v3, v4, some (.ref t), some (.ref e), u, some (.ref f1), none, none] ∧ Same H8 H9 ∧ H9 f1 = some (.lst (c.xs.map V.str)), ?_, ?_⟩
    · exact ⟨_, rfl, b, _, 0, _, rfl, rfl, .of hca, atI_nat (j := 0) rfl, x1, _, rfl, .inl (.of C8.fi), fun f1 hf1 => ⟨f1, rfl, Same.upd hf1, upd_same⟩⟩
    rintro σ H9 ⟨f1, rfl, s9, hf1⟩
    have hca := s9 _ _ hca
    refine ⟨fun σ H10 => ∃ f2, σ = [some (.ref a), some (.ref b), some (.int how), some (.ref sh), some (.ref w), some (.ref wl), some (.ref D), v1, v2, v3, v4, some (.ref t), some (.ref e), u, some (.ref f1), some (.ref f2), none] ∧ Same H9 H10 ∧ H10 f2 = some (.lst (c.ys.map V.str)), ?_, ?_⟩
    · exact ⟨_, rfl, b, _, 1, _, rfl, rfl, .of hca, atI_nat (j := 1) rfl, x2, _, rfl, .inl (.of (s9 _ _ C8.se)), fun f2 hf2 => ⟨f2, rfl, Same.upd hf2, upd_same⟩⟩
    rintro σ H10 ⟨f2, rfl, s10, hf2⟩
    have sV := s8.trans (s9.trans s10)
    have sW := sT.trans sV
    refine ⟨fun σ H11 => ∃ f3, σ = [some (.ref a), some (.ref b), some (.int how), some (.ref sh), some (.ref w), some (.ref wl), some (.ref D), v1, v2, v3, v4, some (.ref t), some (.ref e), u, some (.ref f1), some (.ref f2), some (.ref f3)] ∧ Same H10 H11 ∧ H11 f3 = some (.lst ss), ?_, ?_⟩
    · exact ⟨_, rfl, sh, _, rfl, .inl (.of (sW _ _ hsh)), fun f3 hf3 => ⟨f3, rfl, Same.upd hf3, upd_same⟩⟩
    rintro σ H11 ⟨f3, rfl, s11, hf3⟩
    have sX := sV.trans s11
    have sY := sT.trans sX
    have hf1 := s11 _ _ (s10 _ _ hf1)
    have hf2 := s11 _ _ hf2
    refine ⟨fun σ H12 => ∃ e2, σ = [some (.ref a), some (.ref b), some (.int how), some (.ref sh), some (.ref w), some (.ref wl), some (.ref D), v1, v2, v3, v4, some (.ref t), some (.ref e2), u, some (.ref f1), some (.ref f2), some (.ref f3)] ∧ Same H11 H12 ∧ Tab H11 H12 e2 (thruF c shut) c.xs.length c.ys.length, ?_, ?_⟩
    · exact ⟨_, rfl, _, rfl, _, rfl, _, rfl, f1, f2, t, .ref f3, c, shut, rfl, hf1, hf2, T6.keep sX, .inr ⟨f3, ss, rfl, hf3, PS.same sY⟩, by omega, by omega, by omega, fun H12 e2 s12 Tb => ⟨e2, rfl, s12, Tb⟩⟩
    rintro σ H12 ⟨e2, rfl, s12, es2, he12, he20, TE2, hen2⟩
    have sZ := sX.trans s12
    have C12 := (C5.keep s6).keep sZ
    have hca := C12.ca
    refine ⟨fun σ H13 => σ = [some (.ref a), some (.ref b), some (.int how), some (.ref sh), some (.ref w), some (.ref wl), some (.ref D), v1, v2, v3, v4, some (.ref t), some (.ref e2), u, some (.ref f1), some (.ref f2), some (.ref f3)] ∧ H13 = H12, ?_, ?_⟩
    · refine ⟨_, rfl, _, rfl, b, _, 0, _, rfl, rfl, .of hca, atI_nat (j := 0) rfl, f1, x1, c.xs, rfl, s12 _ _ hf1, C12.fi, by omega, _, rfl, ?_⟩
      refine iteF ?_
      refine ⟨_, rfl, _, rfl, b, _, 1, _, rfl, rfl, .of hca, atI_nat (j := 1) rfl, f2, x2, c.ys, rfl, s12 _ _ hf2, C12.se, by omega, _, rfl, ?_⟩
      refine iteF ?_
      refine ⟨_, rfl, _, rfl, f3, sh, ss, ss, (fun _ => true), rfl, rfl, .of (s12 _ _ hf3), .of (sZ _ _ (sT _ _ hsh)), ?_, _, rfl, ?_⟩
      · intro j x y e1 e2
        rw [e1] at e2
        cases e2
        have hj : j < shut.length := by rw [← PS.1]; exact (List.getElem?_eq_some_iff.mp e1).1
        obtain ⟨tt, ht1, ht2⟩ := PS.atN hj
        rw [e1] at ht1
        cases ht1
        exact .inr ⟨tt, rfl, rfl, rfl⟩
      · refine ite2 (fun hh => absurd hh (by simp)) (fun _ => ?_)
        exact ⟨rfl, rfl⟩
    rintro σ H12 ⟨rfl, rfl⟩
    exact ⟨_, rfl, _, rfl, e2, D, es2, as, thruF c shut, c.xs.length, c.ys.length, rfl, he12, sZ _ _ (s6 _ _ hD5), TE2, (dtab.same s6).same sZ, by omega, by omega, q _⟩
end
theorem all_mk {l : W.OpenLaw} {w : World} {K : W.Frag} {h : Heap} {mg : Str → Option Value} {fa : Addr} (X : K.In h) (G : h.Ns mainGlobals mg) (hfa : mg "law" = some (.ref fa))
    {C_Trails : Addr}
    {C_Terms : Addr}
    {f_is_small_letter : Addr} {od_is_small_letter an_is_small_letter : Option Addr} {sl_is_small_letter : Array (Option Value)} {oc_is_small_letter kV_is_small_letter dc_is_small_letter pm_is_small_letter cd_is_small_letter ct_is_small_letter : Value}
    {f_is_word : Addr} {od_is_word an_is_word : Option Addr} {sl_is_word : Array (Option Value)} {oc_is_word kV_is_word dc_is_word pm_is_word cd_is_word ct_is_word : Value}
    {f_is_between : Addr} {od_is_between an_is_between : Option Addr} {sl_is_between : Array (Option Value)} {oc_is_between kV_is_between dc_is_between pm_is_between cd_is_between ct_is_between : Value}
    {f_check_number : Addr} {od_check_number an_check_number : Option Addr} {sl_check_number : Array (Option Value)} {oc_check_number kV_check_number dc_check_number pm_check_number cd_check_number ct_check_number : Value}
    {f_check_near_form : Addr} {od_check_near_form an_check_near_form : Option Addr} {sl_check_near_form : Array (Option Value)} {oc_check_near_form kV_check_near_form dc_check_near_form pm_check_near_form cd_check_near_form ct_check_near_form : Value}
    {f_near_prices : Addr} {od_near_prices an_near_prices : Option Addr} {sl_near_prices : Array (Option Value)} {oc_near_prices kV_near_prices dc_near_prices pm_near_prices cd_near_prices ct_near_prices : Value}
    {f_Terms___init__ : Addr} {od_Terms___init__ an_Terms___init__ : Option Addr} {sl_Terms___init__ : Array (Option Value)} {oc_Terms___init__ kV_Terms___init__ dc_Terms___init__ pm_Terms___init__ cd_Terms___init__ ct_Terms___init__ : Value}
    {dA_Terms___init__ : Addr} {do_Terms___init__ : Value} {dd_Terms___init__ : Option Addr} {dn_Terms___init__ : Nat} {ds_Terms___init__ : Array (Option Value)} {tt_Terms___init__ : Tok}
    {f_Terms_pair_worth : Addr} {od_Terms_pair_worth an_Terms_pair_worth : Option Addr} {sl_Terms_pair_worth : Array (Option Value)} {oc_Terms_pair_worth kV_Terms_pair_worth dc_Terms_pair_worth pm_Terms_pair_worth cd_Terms_pair_worth ct_Terms_pair_worth : Value}
    {f_greatest : Addr} {od_greatest an_greatest : Option Addr} {sl_greatest : Array (Option Value)} {oc_greatest kV_greatest dc_greatest pm_greatest cd_greatest ct_greatest : Value}
    {f_less : Addr} {od_less an_less : Option Addr} {sl_less : Array (Option Value)} {oc_less kV_less dc_less pm_less cd_less ct_less : Value}
    {f_begun_or_gone_on : Addr} {od_begun_or_gone_on an_begun_or_gone_on : Option Addr} {sl_begun_or_gone_on : Array (Option Value)} {oc_begun_or_gone_on kV_begun_or_gone_on dc_begun_or_gone_on pm_begun_or_gone_on cd_begun_or_gone_on ct_begun_or_gone_on : Value}
    {f_Trails_brought_behind : Addr} {od_Trails_brought_behind an_Trails_brought_behind : Option Addr} {sl_Trails_brought_behind : Array (Option Value)} {oc_Trails_brought_behind kV_Trails_brought_behind dc_Trails_brought_behind pm_Trails_brought_behind cd_Trails_brought_behind ct_Trails_brought_behind : Value}
    {f_Trails___init__ : Addr} {od_Trails___init__ an_Trails___init__ : Option Addr} {sl_Trails___init__ : Array (Option Value)} {oc_Trails___init__ kV_Trails___init__ dc_Trails___init__ pm_Trails___init__ cd_Trails___init__ ct_Trails___init__ : Value}
    {f_shut_by : Addr} {od_shut_by an_shut_by : Option Addr} {sl_shut_by : Array (Option Value)} {oc_shut_by kV_shut_by dc_shut_by pm_shut_by cd_shut_by ct_shut_by : Value}
    {f_open_worths : Addr} {od_open_worths an_open_worths : Option Addr} {sl_open_worths : Array (Option Value)} {oc_open_worths kV_open_worths dc_open_worths pm_open_worths cd_open_worths ct_open_worths : Value}
    {f_read_backwards : Addr} {od_read_backwards an_read_backwards : Option Addr} {sl_read_backwards : Array (Option Value)} {oc_read_backwards kV_read_backwards dc_read_backwards pm_read_backwards cd_read_backwards ct_read_backwards : Value}
    {f_starting_table : Addr} {od_starting_table an_starting_table : Option Addr} {sl_starting_table : Array (Option Value)} {oc_starting_table kV_starting_table dc_starting_table pm_starting_table cd_starting_table ct_starting_table : Value}
    {f_through_worth : Addr} {od_through_worth an_through_worth : Option Addr} {sl_through_worth : Array (Option Value)} {oc_through_worth kV_through_worth dc_through_worth pm_through_worth cd_through_worth ct_through_worth : Value}
    {f_best_through : Addr} {od_best_through an_best_through : Option Addr} {sl_best_through : Array (Option Value)} {oc_best_through kV_best_through dc_best_through pm_best_through cd_best_through ct_best_through : Value}
    {dA_best_through : Addr} {do_best_through : Value} {dd_best_through : Option Addr} {dn_best_through : Nat} {ds_best_through : Array (Option Value)}
    {f__law_at : Addr} {od__law_at an__law_at : Option Addr} {sl__law_at : Array (Option Value)} {oc__law_at kV__law_at dc__law_at pm__law_at cd__law_at ct__law_at : Value}
    {f__law_whole : Addr} {od__law_whole an__law_whole : Option Addr} {sl__law_whole : Array (Option Value)} {oc__law_whole kV__law_whole dc__law_whole pm__law_whole cd__law_whole ct__law_whole : Value}
    {f__law_bank : Addr} {od__law_bank an__law_bank : Option Addr} {sl__law_bank : Array (Option Value)} {oc__law_bank kV__law_bank dc__law_bank pm__law_bank cd__law_bank ct__law_bank : Value}
    {f__law_book : Addr} {od__law_book an__law_book : Option Addr} {sl__law_book : Array (Option Value)} {oc__law_book kV__law_book dc__law_book pm__law_book cd__law_book ct__law_book : Value}
    {f__law_quote : Addr} {od__law_quote an__law_quote : Option Addr} {sl__law_quote : Array (Option Value)} {oc__law_quote kV__law_quote dc__law_quote pm__law_quote cd__law_quote ct__law_quote : Value}
    {f__law_numbers : Addr} {od__law_numbers an__law_numbers : Option Addr} {sl__law_numbers : Array (Option Value)} {oc__law_numbers kV__law_numbers dc__law_numbers pm__law_numbers cd__law_numbers ct__law_numbers : Value}
    {f__law_near : Addr} {od__law_near an__law_near : Option Addr} {sl__law_near : Array (Option Value)} {oc__law_near kV__law_near dc__law_near pm__law_near cd__law_near ct__law_near : Value}
    {f__law_case : Addr} {od__law_case an__law_case : Option Addr} {sl__law_case : Array (Option Value)} {oc__law_case kV__law_case dc__law_case pm__law_case cd__law_case ct__law_case : Value}
    {f__law_pair : Addr} {od__law_pair an__law_pair : Option Addr} {sl__law_pair : Array (Option Value)} {oc__law_pair kV__law_pair dc__law_pair pm__law_pair cd__law_pair ct__law_pair : Value}
    {f__law_worth : Addr} {od__law_worth an__law_worth : Option Addr} {sl__law_worth : Array (Option Value)} {oc__law_worth kV__law_worth dc__law_worth pm__law_worth cd__law_worth ct__law_worth : Value}
    {f__law_ways : Addr} {od__law_ways an__law_ways : Option Addr} {sl__law_ways : Array (Option Value)} {oc__law_ways kV__law_ways dc__law_ways pm__law_ways cd__law_ways ct__law_ways : Value}
    {f__law_texts : Addr} {od__law_texts an__law_texts : Option Addr} {sl__law_texts : Array (Option Value)} {oc__law_texts kV__law_texts dc__law_texts pm__law_texts cd__law_texts ct__law_texts : Value}
    {f__law_table : Addr} {od__law_table an__law_table : Option Addr} {sl__law_table : Array (Option Value)} {oc__law_table kV__law_table dc__law_table pm__law_table cd__law_table ct__law_table : Value}
    {f__law_taken : Addr} {od__law_taken an__law_taken : Option Addr} {sl__law_taken : Array (Option Value)} {oc__law_taken kV__law_taken dc__law_taken pm__law_taken cd__law_taken ct__law_taken : Value}
    {f__law_terms : Addr} {od__law_terms an__law_terms : Option Addr} {sl__law_terms : Array (Option Value)} {oc__law_terms kV__law_terms dc__law_terms pm__law_terms cd__law_terms ct__law_terms : Value}
    {f__law_asked : Addr} {od__law_asked an__law_asked : Option Addr} {sl__law_asked : Array (Option Value)} {oc__law_asked kV__law_asked dc__law_asked pm__law_asked cd__law_asked ct__law_asked : Value}
    {f_law : Addr} {od_law an_law : Option Addr} {sl_law : Array (Option Value)} {oc_law kV_law dc_law pm_law cd_law ct_law : Value}
    {t_WORD_MOST : Tok}
    {t_WORTH_MOST : Tok}
    {t_NEAR_MOST : Tok}
    {t_PART_MOST : Tok}
    {C_BadTerms : Addr}
    {C_BadNear : Addr}
    (g_Trails : W.nsIn K mainGlobals "Trails" = some (some (.ref C_Trails)))
    (g_Terms : W.nsIn K mainGlobals "Terms" = some (some (.ref C_Terms)))
    (a_is_small_letter : W.nsIn K mainGlobals "is_small_letter" = some (some (.ref f_is_small_letter)))
    (l_is_small_letter : K.lookup f_is_small_letter = some ⟨oc_is_small_letter, od_is_small_letter, .func (W.fnOf "is_small_letter" "is_small_letter" (defArgs s_is_small_letter) (defBody s_is_small_letter) (defScope s_is_small_letter) .none kV_is_small_letter dc_is_small_letter pm_is_small_letter an_is_small_letter cd_is_small_letter ct_is_small_letter), sl_is_small_letter⟩)
    (c_is_small_letter : W.codeIn K cd_is_small_letter "is_small_letter" = true) (k_is_small_letter : W.keepIn K (.ref f_is_small_letter) = true)
    (a_is_word : W.nsIn K mainGlobals "is_word" = some (some (.ref f_is_word)))
    (l_is_word : K.lookup f_is_word = some ⟨oc_is_word, od_is_word, .func (W.fnOf "is_word" "is_word" (defArgs s_is_word) (defBody s_is_word) (defScope s_is_word) .none kV_is_word dc_is_word pm_is_word an_is_word cd_is_word ct_is_word), sl_is_word⟩)
    (c_is_word : W.codeIn K cd_is_word "is_word" = true) (k_is_word : W.keepIn K (.ref f_is_word) = true)
    (a_is_between : W.nsIn K mainGlobals "is_between" = some (some (.ref f_is_between)))
    (l_is_between : K.lookup f_is_between = some ⟨oc_is_between, od_is_between, .func (W.fnOf "is_between" "is_between" (defArgs s_is_between) (defBody s_is_between) (defScope s_is_between) .none kV_is_between dc_is_between pm_is_between an_is_between cd_is_between ct_is_between), sl_is_between⟩)
    (c_is_between : W.codeIn K cd_is_between "is_between" = true) (k_is_between : W.keepIn K (.ref f_is_between) = true)
    (a_check_number : W.nsIn K mainGlobals "check_number" = some (some (.ref f_check_number)))
    (l_check_number : K.lookup f_check_number = some ⟨oc_check_number, od_check_number, .func (W.fnOf "check_number" "check_number" (defArgs s_check_number) (defBody s_check_number) (defScope s_check_number) .none kV_check_number dc_check_number pm_check_number an_check_number cd_check_number ct_check_number), sl_check_number⟩)
    (c_check_number : W.codeIn K cd_check_number "check_number" = true) (k_check_number : W.keepIn K (.ref f_check_number) = true)
    (a_check_near_form : W.nsIn K mainGlobals "check_near_form" = some (some (.ref f_check_near_form)))
    (l_check_near_form : K.lookup f_check_near_form = some ⟨oc_check_near_form, od_check_near_form, .func (W.fnOf "check_near_form" "check_near_form" (defArgs s_check_near_form) (defBody s_check_near_form) (defScope s_check_near_form) .none kV_check_near_form dc_check_near_form pm_check_near_form an_check_near_form cd_check_near_form ct_check_near_form), sl_check_near_form⟩)
    (c_check_near_form : W.codeIn K cd_check_near_form "check_near_form" = true) (k_check_near_form : W.keepIn K (.ref f_check_near_form) = true)
    (a_near_prices : W.nsIn K mainGlobals "near_prices" = some (some (.ref f_near_prices)))
    (l_near_prices : K.lookup f_near_prices = some ⟨oc_near_prices, od_near_prices, .func (W.fnOf "near_prices" "near_prices" (defArgs s_near_prices) (defBody s_near_prices) (defScope s_near_prices) .none kV_near_prices dc_near_prices pm_near_prices an_near_prices cd_near_prices ct_near_prices), sl_near_prices⟩)
    (c_near_prices : W.codeIn K cd_near_prices "near_prices" = true) (k_near_prices : W.keepIn K (.ref f_near_prices) = true)
    (a_Terms___init__ : W.findIn K (.ref C_Terms) "__init__" = some (some (.ref f_Terms___init__))) (i_Terms___init__ : W.isFn K (.ref f_Terms___init__) = true)
    (l_Terms___init__ : K.lookup f_Terms___init__ = some ⟨oc_Terms___init__, od_Terms___init__, .func (W.fnOf "__init__" "Terms.__init__" (defArgs s_Terms___init__) (defBody s_Terms___init__) (defScope s_Terms___init__) (.ref dA_Terms___init__) kV_Terms___init__ dc_Terms___init__ pm_Terms___init__ an_Terms___init__ cd_Terms___init__ ct_Terms___init__), sl_Terms___init__⟩)
    (c_Terms___init__ : W.codeIn K cd_Terms___init__ "Terms.__init__" = true) (k_Terms___init__ : W.keepIn K (.ref f_Terms___init__) = true)
    (dv_Terms___init__ : K.lookup dA_Terms___init__ = some ⟨do_Terms___init__, dd_Terms___init__, .seq #[.int 50 tt_Terms___init__, .none] dn_Terms___init__, ds_Terms___init__⟩)
    (a_Terms_pair_worth : W.findIn K (.ref C_Terms) "pair_worth" = some (some (.ref f_Terms_pair_worth))) (i_Terms_pair_worth : W.isFn K (.ref f_Terms_pair_worth) = true)
    (l_Terms_pair_worth : K.lookup f_Terms_pair_worth = some ⟨oc_Terms_pair_worth, od_Terms_pair_worth, .func (W.fnOf "pair_worth" "Terms.pair_worth" (defArgs s_Terms_pair_worth) (defBody s_Terms_pair_worth) (defScope s_Terms_pair_worth) .none kV_Terms_pair_worth dc_Terms_pair_worth pm_Terms_pair_worth an_Terms_pair_worth cd_Terms_pair_worth ct_Terms_pair_worth), sl_Terms_pair_worth⟩)
    (c_Terms_pair_worth : W.codeIn K cd_Terms_pair_worth "Terms.pair_worth" = true) (k_Terms_pair_worth : W.keepIn K (.ref f_Terms_pair_worth) = true)
    (a_greatest : W.nsIn K mainGlobals "greatest" = some (some (.ref f_greatest)))
    (l_greatest : K.lookup f_greatest = some ⟨oc_greatest, od_greatest, .func (W.fnOf "greatest" "greatest" (defArgs s_greatest) (defBody s_greatest) (defScope s_greatest) .none kV_greatest dc_greatest pm_greatest an_greatest cd_greatest ct_greatest), sl_greatest⟩)
    (c_greatest : W.codeIn K cd_greatest "greatest" = true) (k_greatest : W.keepIn K (.ref f_greatest) = true)
    (a_less : W.nsIn K mainGlobals "less" = some (some (.ref f_less)))
    (l_less : K.lookup f_less = some ⟨oc_less, od_less, .func (W.fnOf "less" "less" (defArgs s_less) (defBody s_less) (defScope s_less) .none kV_less dc_less pm_less an_less cd_less ct_less), sl_less⟩)
    (c_less : W.codeIn K cd_less "less" = true) (k_less : W.keepIn K (.ref f_less) = true)
    (a_begun_or_gone_on : W.nsIn K mainGlobals "begun_or_gone_on" = some (some (.ref f_begun_or_gone_on)))
    (l_begun_or_gone_on : K.lookup f_begun_or_gone_on = some ⟨oc_begun_or_gone_on, od_begun_or_gone_on, .func (W.fnOf "begun_or_gone_on" "begun_or_gone_on" (defArgs s_begun_or_gone_on) (defBody s_begun_or_gone_on) (defScope s_begun_or_gone_on) .none kV_begun_or_gone_on dc_begun_or_gone_on pm_begun_or_gone_on an_begun_or_gone_on cd_begun_or_gone_on ct_begun_or_gone_on), sl_begun_or_gone_on⟩)
    (c_begun_or_gone_on : W.codeIn K cd_begun_or_gone_on "begun_or_gone_on" = true) (k_begun_or_gone_on : W.keepIn K (.ref f_begun_or_gone_on) = true)
    (a_Trails_brought_behind : W.findIn K (.ref C_Trails) "brought_behind" = some (some (.ref f_Trails_brought_behind))) (i_Trails_brought_behind : W.isFn K (.ref f_Trails_brought_behind) = true)
    (l_Trails_brought_behind : K.lookup f_Trails_brought_behind = some ⟨oc_Trails_brought_behind, od_Trails_brought_behind, .func (W.fnOf "brought_behind" "Trails.brought_behind" (defArgs s_Trails_brought_behind) (defBody s_Trails_brought_behind) (defScope s_Trails_brought_behind) .none kV_Trails_brought_behind dc_Trails_brought_behind pm_Trails_brought_behind an_Trails_brought_behind cd_Trails_brought_behind ct_Trails_brought_behind), sl_Trails_brought_behind⟩)
    (c_Trails_brought_behind : W.codeIn K cd_Trails_brought_behind "Trails.brought_behind" = true) (k_Trails_brought_behind : W.keepIn K (.ref f_Trails_brought_behind) = true)
    (a_Trails___init__ : W.findIn K (.ref C_Trails) "__init__" = some (some (.ref f_Trails___init__))) (i_Trails___init__ : W.isFn K (.ref f_Trails___init__) = true)
    (l_Trails___init__ : K.lookup f_Trails___init__ = some ⟨oc_Trails___init__, od_Trails___init__, .func (W.fnOf "__init__" "Trails.__init__" (defArgs s_Trails___init__) (defBody s_Trails___init__) (defScope s_Trails___init__) .none kV_Trails___init__ dc_Trails___init__ pm_Trails___init__ an_Trails___init__ cd_Trails___init__ ct_Trails___init__), sl_Trails___init__⟩)
    (c_Trails___init__ : W.codeIn K cd_Trails___init__ "Trails.__init__" = true) (k_Trails___init__ : W.keepIn K (.ref f_Trails___init__) = true)
    (a_shut_by : W.nsIn K mainGlobals "shut_by" = some (some (.ref f_shut_by)))
    (l_shut_by : K.lookup f_shut_by = some ⟨oc_shut_by, od_shut_by, .func (W.fnOf "shut_by" "shut_by" (defArgs s_shut_by) (defBody s_shut_by) (defScope s_shut_by) .none kV_shut_by dc_shut_by pm_shut_by an_shut_by cd_shut_by ct_shut_by), sl_shut_by⟩)
    (c_shut_by : W.codeIn K cd_shut_by "shut_by" = true) (k_shut_by : W.keepIn K (.ref f_shut_by) = true)
    (a_open_worths : W.nsIn K mainGlobals "open_worths" = some (some (.ref f_open_worths)))
    (l_open_worths : K.lookup f_open_worths = some ⟨oc_open_worths, od_open_worths, .func (W.fnOf "open_worths" "open_worths" (defArgs s_open_worths) (defBody s_open_worths) (defScope s_open_worths) .none kV_open_worths dc_open_worths pm_open_worths an_open_worths cd_open_worths ct_open_worths), sl_open_worths⟩)
    (c_open_worths : W.codeIn K cd_open_worths "open_worths" = true) (k_open_worths : W.keepIn K (.ref f_open_worths) = true)
    (a_read_backwards : W.nsIn K mainGlobals "read_backwards" = some (some (.ref f_read_backwards)))
    (l_read_backwards : K.lookup f_read_backwards = some ⟨oc_read_backwards, od_read_backwards, .func (W.fnOf "read_backwards" "read_backwards" (defArgs s_read_backwards) (defBody s_read_backwards) (defScope s_read_backwards) .none kV_read_backwards dc_read_backwards pm_read_backwards an_read_backwards cd_read_backwards ct_read_backwards), sl_read_backwards⟩)
    (c_read_backwards : W.codeIn K cd_read_backwards "read_backwards" = true) (k_read_backwards : W.keepIn K (.ref f_read_backwards) = true)
    (a_starting_table : W.nsIn K mainGlobals "starting_table" = some (some (.ref f_starting_table)))
    (l_starting_table : K.lookup f_starting_table = some ⟨oc_starting_table, od_starting_table, .func (W.fnOf "starting_table" "starting_table" (defArgs s_starting_table) (defBody s_starting_table) (defScope s_starting_table) .none kV_starting_table dc_starting_table pm_starting_table an_starting_table cd_starting_table ct_starting_table), sl_starting_table⟩)
    (c_starting_table : W.codeIn K cd_starting_table "starting_table" = true) (k_starting_table : W.keepIn K (.ref f_starting_table) = true)
    (a_through_worth : W.nsIn K mainGlobals "through_worth" = some (some (.ref f_through_worth)))
    (l_through_worth : K.lookup f_through_worth = some ⟨oc_through_worth, od_through_worth, .func (W.fnOf "through_worth" "through_worth" (defArgs s_through_worth) (defBody s_through_worth) (defScope s_through_worth) .none kV_through_worth dc_through_worth pm_through_worth an_through_worth cd_through_worth ct_through_worth), sl_through_worth⟩)
    (c_through_worth : W.codeIn K cd_through_worth "through_worth" = true) (k_through_worth : W.keepIn K (.ref f_through_worth) = true)
    (a_best_through : W.nsIn K mainGlobals "best_through" = some (some (.ref f_best_through)))
    (l_best_through : K.lookup f_best_through = some ⟨oc_best_through, od_best_through, .func (W.fnOf "best_through" "best_through" (defArgs s_best_through) (defBody s_best_through) (defScope s_best_through) (.ref dA_best_through) kV_best_through dc_best_through pm_best_through an_best_through cd_best_through ct_best_through), sl_best_through⟩)
    (c_best_through : W.codeIn K cd_best_through "best_through" = true) (k_best_through : W.keepIn K (.ref f_best_through) = true)
    (dv_best_through : K.lookup dA_best_through = some ⟨do_best_through, dd_best_through, .seq #[.none] dn_best_through, ds_best_through⟩)
    (a__law_at : W.nsIn K mainGlobals "_law_at" = some (some (.ref f__law_at)))
    (l__law_at : K.lookup f__law_at = some ⟨oc__law_at, od__law_at, .func (W.fnOf "_law_at" "_law_at" (defArgs s__law_at) (defBody s__law_at) (defScope s__law_at) .none kV__law_at dc__law_at pm__law_at an__law_at cd__law_at ct__law_at), sl__law_at⟩)
    (c__law_at : W.codeIn K cd__law_at "_law_at" = true) (k__law_at : W.keepIn K (.ref f__law_at) = true)
    (a__law_whole : W.nsIn K mainGlobals "_law_whole" = some (some (.ref f__law_whole)))
    (l__law_whole : K.lookup f__law_whole = some ⟨oc__law_whole, od__law_whole, .func (W.fnOf "_law_whole" "_law_whole" (defArgs s__law_whole) (defBody s__law_whole) (defScope s__law_whole) .none kV__law_whole dc__law_whole pm__law_whole an__law_whole cd__law_whole ct__law_whole), sl__law_whole⟩)
    (c__law_whole : W.codeIn K cd__law_whole "_law_whole" = true) (k__law_whole : W.keepIn K (.ref f__law_whole) = true)
    (a__law_bank : W.nsIn K mainGlobals "_law_bank" = some (some (.ref f__law_bank)))
    (l__law_bank : K.lookup f__law_bank = some ⟨oc__law_bank, od__law_bank, .func (W.fnOf "_law_bank" "_law_bank" (defArgs s__law_bank) (defBody s__law_bank) (defScope s__law_bank) .none kV__law_bank dc__law_bank pm__law_bank an__law_bank cd__law_bank ct__law_bank), sl__law_bank⟩)
    (c__law_bank : W.codeIn K cd__law_bank "_law_bank" = true) (k__law_bank : W.keepIn K (.ref f__law_bank) = true)
    (a__law_book : W.nsIn K mainGlobals "_law_book" = some (some (.ref f__law_book)))
    (l__law_book : K.lookup f__law_book = some ⟨oc__law_book, od__law_book, .func (W.fnOf "_law_book" "_law_book" (defArgs s__law_book) (defBody s__law_book) (defScope s__law_book) .none kV__law_book dc__law_book pm__law_book an__law_book cd__law_book ct__law_book), sl__law_book⟩)
    (c__law_book : W.codeIn K cd__law_book "_law_book" = true) (k__law_book : W.keepIn K (.ref f__law_book) = true)
    (a__law_quote : W.nsIn K mainGlobals "_law_quote" = some (some (.ref f__law_quote)))
    (l__law_quote : K.lookup f__law_quote = some ⟨oc__law_quote, od__law_quote, .func (W.fnOf "_law_quote" "_law_quote" (defArgs s__law_quote) (defBody s__law_quote) (defScope s__law_quote) .none kV__law_quote dc__law_quote pm__law_quote an__law_quote cd__law_quote ct__law_quote), sl__law_quote⟩)
    (c__law_quote : W.codeIn K cd__law_quote "_law_quote" = true) (k__law_quote : W.keepIn K (.ref f__law_quote) = true)
    (a__law_numbers : W.nsIn K mainGlobals "_law_numbers" = some (some (.ref f__law_numbers)))
    (l__law_numbers : K.lookup f__law_numbers = some ⟨oc__law_numbers, od__law_numbers, .func (W.fnOf "_law_numbers" "_law_numbers" (defArgs s__law_numbers) (defBody s__law_numbers) (defScope s__law_numbers) .none kV__law_numbers dc__law_numbers pm__law_numbers an__law_numbers cd__law_numbers ct__law_numbers), sl__law_numbers⟩)
    (c__law_numbers : W.codeIn K cd__law_numbers "_law_numbers" = true) (k__law_numbers : W.keepIn K (.ref f__law_numbers) = true)
    (a__law_near : W.nsIn K mainGlobals "_law_near" = some (some (.ref f__law_near)))
    (l__law_near : K.lookup f__law_near = some ⟨oc__law_near, od__law_near, .func (W.fnOf "_law_near" "_law_near" (defArgs s__law_near) (defBody s__law_near) (defScope s__law_near) .none kV__law_near dc__law_near pm__law_near an__law_near cd__law_near ct__law_near), sl__law_near⟩)
    (c__law_near : W.codeIn K cd__law_near "_law_near" = true) (k__law_near : W.keepIn K (.ref f__law_near) = true)
    (a__law_case : W.nsIn K mainGlobals "_law_case" = some (some (.ref f__law_case)))
    (l__law_case : K.lookup f__law_case = some ⟨oc__law_case, od__law_case, .func (W.fnOf "_law_case" "_law_case" (defArgs s__law_case) (defBody s__law_case) (defScope s__law_case) .none kV__law_case dc__law_case pm__law_case an__law_case cd__law_case ct__law_case), sl__law_case⟩)
    (c__law_case : W.codeIn K cd__law_case "_law_case" = true) (k__law_case : W.keepIn K (.ref f__law_case) = true)
    (a__law_pair : W.nsIn K mainGlobals "_law_pair" = some (some (.ref f__law_pair)))
    (l__law_pair : K.lookup f__law_pair = some ⟨oc__law_pair, od__law_pair, .func (W.fnOf "_law_pair" "_law_pair" (defArgs s__law_pair) (defBody s__law_pair) (defScope s__law_pair) .none kV__law_pair dc__law_pair pm__law_pair an__law_pair cd__law_pair ct__law_pair), sl__law_pair⟩)
    (c__law_pair : W.codeIn K cd__law_pair "_law_pair" = true) (k__law_pair : W.keepIn K (.ref f__law_pair) = true)
    (a__law_worth : W.nsIn K mainGlobals "_law_worth" = some (some (.ref f__law_worth)))
    (l__law_worth : K.lookup f__law_worth = some ⟨oc__law_worth, od__law_worth, .func (W.fnOf "_law_worth" "_law_worth" (defArgs s__law_worth) (defBody s__law_worth) (defScope s__law_worth) .none kV__law_worth dc__law_worth pm__law_worth an__law_worth cd__law_worth ct__law_worth), sl__law_worth⟩)
    (c__law_worth : W.codeIn K cd__law_worth "_law_worth" = true) (k__law_worth : W.keepIn K (.ref f__law_worth) = true)
    (a__law_ways : W.nsIn K mainGlobals "_law_ways" = some (some (.ref f__law_ways)))
    (l__law_ways : K.lookup f__law_ways = some ⟨oc__law_ways, od__law_ways, .func (W.fnOf "_law_ways" "_law_ways" (defArgs s__law_ways) (defBody s__law_ways) (defScope s__law_ways) .none kV__law_ways dc__law_ways pm__law_ways an__law_ways cd__law_ways ct__law_ways), sl__law_ways⟩)
    (c__law_ways : W.codeIn K cd__law_ways "_law_ways" = true) (k__law_ways : W.keepIn K (.ref f__law_ways) = true)
    (a__law_texts : W.nsIn K mainGlobals "_law_texts" = some (some (.ref f__law_texts)))
    (l__law_texts : K.lookup f__law_texts = some ⟨oc__law_texts, od__law_texts, .func (W.fnOf "_law_texts" "_law_texts" (defArgs s__law_texts) (defBody s__law_texts) (defScope s__law_texts) .none kV__law_texts dc__law_texts pm__law_texts an__law_texts cd__law_texts ct__law_texts), sl__law_texts⟩)
    (c__law_texts : W.codeIn K cd__law_texts "_law_texts" = true) (k__law_texts : W.keepIn K (.ref f__law_texts) = true)
    (a__law_table : W.nsIn K mainGlobals "_law_table" = some (some (.ref f__law_table)))
    (l__law_table : K.lookup f__law_table = some ⟨oc__law_table, od__law_table, .func (W.fnOf "_law_table" "_law_table" (defArgs s__law_table) (defBody s__law_table) (defScope s__law_table) .none kV__law_table dc__law_table pm__law_table an__law_table cd__law_table ct__law_table), sl__law_table⟩)
    (c__law_table : W.codeIn K cd__law_table "_law_table" = true) (k__law_table : W.keepIn K (.ref f__law_table) = true)
    (a__law_taken : W.nsIn K mainGlobals "_law_taken" = some (some (.ref f__law_taken)))
    (l__law_taken : K.lookup f__law_taken = some ⟨oc__law_taken, od__law_taken, .func (W.fnOf "_law_taken" "_law_taken" (defArgs s__law_taken) (defBody s__law_taken) (defScope s__law_taken) .none kV__law_taken dc__law_taken pm__law_taken an__law_taken cd__law_taken ct__law_taken), sl__law_taken⟩)
    (c__law_taken : W.codeIn K cd__law_taken "_law_taken" = true) (k__law_taken : W.keepIn K (.ref f__law_taken) = true)
    (a__law_terms : W.nsIn K mainGlobals "_law_terms" = some (some (.ref f__law_terms)))
    (l__law_terms : K.lookup f__law_terms = some ⟨oc__law_terms, od__law_terms, .func (W.fnOf "_law_terms" "_law_terms" (defArgs s__law_terms) (defBody s__law_terms) (defScope s__law_terms) .none kV__law_terms dc__law_terms pm__law_terms an__law_terms cd__law_terms ct__law_terms), sl__law_terms⟩)
    (c__law_terms : W.codeIn K cd__law_terms "_law_terms" = true) (k__law_terms : W.keepIn K (.ref f__law_terms) = true)
    (a__law_asked : W.nsIn K mainGlobals "_law_asked" = some (some (.ref f__law_asked)))
    (l__law_asked : K.lookup f__law_asked = some ⟨oc__law_asked, od__law_asked, .func (W.fnOf "_law_asked" "_law_asked" (defArgs s__law_asked) (defBody s__law_asked) (defScope s__law_asked) .none kV__law_asked dc__law_asked pm__law_asked an__law_asked cd__law_asked ct__law_asked), sl__law_asked⟩)
    (c__law_asked : W.codeIn K cd__law_asked "_law_asked" = true) (k__law_asked : W.keepIn K (.ref f__law_asked) = true)
    (a_law : W.nsIn K mainGlobals "law" = some (some (.ref f_law)))
    (l_law : K.lookup f_law = some ⟨oc_law, od_law, .func (W.fnOf "law" "law" (defArgs s_law) (defBody s_law) (defScope s_law) .none kV_law dc_law pm_law an_law cd_law ct_law), sl_law⟩)
    (c_law : W.codeIn K cd_law "law" = true) (k_law : W.keepIn K (.ref f_law) = true)
    (gp_Terms : W.plainGet K C_Terms Str.empty = true) (gh_Terms : W.hasDictIn K C_Terms = true) (go_Terms : W.plainOver K C_Terms = true) (gs_Terms : W.findIn K (.ref C_Terms) "__setattr__" = some (some (.builtin "object.__setattr__"))) (gm_Terms : W.makesIn K C_Terms = true) (gk_Terms : W.keepIn K (.ref C_Terms) = true)
    (na_Terms_same : W.findIn K (.ref C_Terms) "same" = some none)
    (na_Terms_out : W.findIn K (.ref C_Terms) "out" = some none)
    (na_Terms_into : W.findIn K (.ref C_Terms) "into" = some none)
    (na_Terms_least : W.findIn K (.ref C_Terms) "least" = some none)
    (na_Terms_part : W.findIn K (.ref C_Terms) "part" = some none)
    (na_Terms_near : W.findIn K (.ref C_Terms) "near" = some none)
    (na_Terms_prices : W.findIn K (.ref C_Terms) "prices" = some none)
    (gp_Trails : W.plainGet K C_Trails Str.empty = true) (gh_Trails : W.hasDictIn K C_Trails = true) (go_Trails : W.plainOver K C_Trails = true) (gs_Trails : W.findIn K (.ref C_Trails) "__setattr__" = some (some (.builtin "object.__setattr__"))) (gm_Trails : W.makesIn K C_Trails = true) (gk_Trails : W.keepIn K (.ref C_Trails) = true)
    (na_Trails_out : W.findIn K (.ref C_Trails) "out" = some none)
    (na_Trails_into : W.findIn K (.ref C_Trails) "into" = some none)
    (na_Trails_ending : W.findIn K (.ref C_Trails) "ending" = some none)
    (na_Trails_brought : W.findIn K (.ref C_Trails) "brought" = some none)
    (z_len : W.nsIn K mainGlobals "len" = some none)
    (z_range : W.nsIn K mainGlobals "range" = some none)
    (z_isinstance : W.nsIn K mainGlobals "isinstance" = some none)
    (z_int : W.nsIn K mainGlobals "int" = some none)
    (z_bool : W.nsIn K mainGlobals "bool" = some none)
    (z_str : W.nsIn K mainGlobals "str" = some none)
    (z_list : W.nsIn K mainGlobals "list" = some none)
    (z_tuple : W.nsIn K mainGlobals "tuple" = some none)
    (z_dict : W.nsIn K mainGlobals "dict" = some none)
    (z_all : W.nsIn K mainGlobals "all" = some none)
    (z_any : W.nsIn K mainGlobals "any" = some none)
    (z_min : W.nsIn K mainGlobals "min" = some none)
    (z_max : W.nsIn K mainGlobals "max" = some none)
    (z_enumerate : W.nsIn K mainGlobals "enumerate" = some none)
    (z_ValueError : W.nsIn K mainGlobals "ValueError" = some none)
    (y_WORD_MOST : W.nsIn K mainGlobals "WORD_MOST" = some (some (.int 12 t_WORD_MOST)))
    (y_WORTH_MOST : W.nsIn K mainGlobals "WORTH_MOST" = some (some (.int 999999 t_WORTH_MOST)))
    (y_NEAR_MOST : W.nsIn K mainGlobals "NEAR_MOST" = some (some (.int 60 t_NEAR_MOST)))
    (y_PART_MOST : W.nsIn K mainGlobals "PART_MOST" = some (some (.int 100 t_PART_MOST)))
    (x_BadTerms : W.nsIn K mainGlobals "BadTerms" = some (some (.ref C_BadTerms)))
    (xe_BadTerms : W.excIn K C_BadTerms [.type "ValueError", .type "Exception", .type "BaseException", .type "object"] "ValueError.__new__" = true)
    (xc_BadTerms : W.findIn K (.ref C_BadTerms) "__class__" = some (some (.builtin "object.__class__"))) (xo_BadTerms : W.mroIn K C_BadTerms (.type "object") = some true) (xb_BadTerms : W.mroIn K C_BadTerms (.type "BaseException") = some true)
    (xg_BadTerms : W.findIn K (.ref C_BadTerms) "__getattribute__" = some (some (.builtin "BaseException.__getattribute__"))) (xn_BadTerms : W.findIn K (.ref C_BadTerms) "__getattr__" = some none) (xt_BadTerms : W.instIn K (.ref C_BadTerms) (.type "tuple") = some false) (xk_BadTerms : W.keepIn K (.ref C_BadTerms) = true)
    (x_BadNear : W.nsIn K mainGlobals "BadNear" = some (some (.ref C_BadNear)))
    (xe_BadNear : W.excIn K C_BadNear [.type "ValueError", .type "Exception", .type "BaseException", .type "object"] "ValueError.__new__" = true)
    (xc_BadNear : W.findIn K (.ref C_BadNear) "__class__" = some (some (.builtin "object.__class__"))) (xo_BadNear : W.mroIn K C_BadNear (.type "object") = some true) (xb_BadNear : W.mroIn K C_BadNear (.type "BaseException") = some true)
    (xg_BadNear : W.findIn K (.ref C_BadNear) "__getattribute__" = some (some (.builtin "BaseException.__getattribute__"))) (xn_BadNear : W.findIn K (.ref C_BadNear) "__getattr__" = some none) (xt_BadNear : W.instIn K (.ref C_BadNear) (.type "tuple") = some false) (xk_BadNear : W.keepIn K (.ref C_BadNear) = true)
    (z_reversed : W.nsIn K mainGlobals "reversed" = some none)
    : ∃ fd : FuncData, (∀ (s : Shared) (v : Value), BindsTo s fd ⟨[v], []⟩ [("_law_script", v)]) ∧ ∀ base : Heap, K.In base → base.Ns mainGlobals mg → FnOk l.prog w K mg base (CXF l.prog w) true 10 fa fd ["_law_script"] (spLaw K) := by
  have e := hfa.symm.trans (W.mg_of X G a_law)
  cases e
  have T : TB mg := ⟨W.mg_none_of X G z_len, W.mg_none_of X G z_range, W.mg_none_of X G z_isinstance, W.mg_none_of X G z_int, W.mg_none_of X G z_bool, W.mg_none_of X G z_str, W.mg_none_of X G z_list, W.mg_none_of X G z_tuple, W.mg_none_of X G z_dict, W.mg_none_of X G z_all, W.mg_none_of X G z_any, W.mg_none_of X G z_min, W.mg_none_of X G z_max, W.mg_none_of X G z_enumerate, W.mg_none_of X G z_ValueError⟩
  have c_WORD_MOST : Con mg "WORD_MOST" (.int 12) := ⟨_, W.mg_of X G y_WORD_MOST, _, rfl⟩
  have c_WORTH_MOST : Con mg "WORTH_MOST" (.int 999999) := ⟨_, W.mg_of X G y_WORTH_MOST, _, rfl⟩
  have c_NEAR_MOST : Con mg "NEAR_MOST" (.int 60) := ⟨_, W.mg_of X G y_NEAR_MOST, _, rfl⟩
  have c_PART_MOST : Con mg "PART_MOST" (.int 100) := ⟨_, W.mg_of X G y_PART_MOST, _, rfl⟩
  have e_BadTerms : Er K mg "BadTerms" C_BadTerms := ⟨W.mg_of X G x_BadTerms, xe_BadTerms, xc_BadTerms, xo_BadTerms, xb_BadTerms, xg_BadTerms, xn_BadTerms, xt_BadTerms, xk_BadTerms⟩
  have e_BadNear : Er K mg "BadNear" C_BadNear := ⟨W.mg_of X G x_BadNear, xe_BadNear, xc_BadNear, xo_BadNear, xb_BadNear, xg_BadNear, xn_BadNear, xt_BadNear, xk_BadNear⟩
  have m_Terms := W.mg_of X G g_Terms
  have cl_Terms : Cls K C_Terms := ⟨gp_Terms, gh_Terms, go_Terms, gs_Terms⟩
  have m_Trails := W.mg_of X G g_Trails
  have cl_Trails : Cls K C_Trails := ⟨gp_Trails, gh_Trails, go_Trails, gs_Trails⟩
  have Tc : TermsC K C_Terms := ⟨cl_Terms, na_Terms_same, na_Terms_out, na_Terms_into, na_Terms_least, na_Terms_part, na_Terms_near, na_Terms_prices⟩
  have Rc : TrailsC K C_Trails := ⟨cl_Trails, na_Trails_out, na_Trails_into, na_Trails_ending, na_Trails_brought⟩
  have n_reversed : mg "reversed" = none := W.mg_none_of X G z_reversed
  refine ⟨W.fnOf "law" "law" (defArgs s_law) (defBody s_law) (defScope s_law) .none kV_law dc_law pm_law an_law cd_law ct_law, fun s v => .of_eq rfl, fun base _ _ => ?_⟩
  have F_is_small_letter := fun_mk (st := s_is_small_letter) l_is_small_letter c_is_small_letter k_is_small_letter
  have b_is_small_letter := F_is_small_letter.binds (ps := ["sign"]) fun _ _ _ _ _ _ us hl => on1 (P := fun us => bindArgs _ ⟨us, []⟩ = pure (List.zip _ us)) (fun _ => rfl) us hl
  have D_is_small_letter := isDef_mk (P := l.prog) (w := w) (base := base) F_is_small_letter (W.mg_of X G a_is_small_letter) b_is_small_letter (ok_is_small_letter F_is_small_letter T)
  have F_is_word := fun_mk (st := s_is_word) l_is_word c_is_word k_is_word
  have b_is_word := F_is_word.binds (ps := ["text"]) fun _ _ _ _ _ _ us hl => on1 (P := fun us => bindArgs _ ⟨us, []⟩ = pure (List.zip _ us)) (fun _ => rfl) us hl
  have D_is_word := isDef_mk (P := l.prog) (w := w) (base := base) F_is_word (W.mg_of X G a_is_word) b_is_word (ok_is_word F_is_word T c_WORD_MOST D_is_small_letter)
  have F_is_between := fun_mk (st := s_is_between) l_is_between c_is_between k_is_between
  have b_is_between := F_is_between.binds (ps := ["low", "number", "high"]) fun _ _ _ _ _ _ us hl => on3 (P := fun us => bindArgs _ ⟨us, []⟩ = pure (List.zip _ us)) (fun _ _ _ => rfl) us hl
  have D_is_between := isDef_mk (P := l.prog) (w := w) (base := base) F_is_between (W.mg_of X G a_is_between) b_is_between (ok_is_between F_is_between T)
  have F_check_number := fun_mk (st := s_check_number) l_check_number c_check_number k_check_number
  have b_check_number := F_check_number.binds (ps := ["name", "number", "low", "high"]) fun _ _ _ _ _ _ us hl => on4 (P := fun us => bindArgs _ ⟨us, []⟩ = pure (List.zip _ us)) (fun _ _ _ _ => rfl) us hl
  have D_check_number := isDef_mk (P := l.prog) (w := w) (base := base) F_check_number (W.mg_of X G a_check_number) b_check_number (ok_check_number F_check_number T D_is_between e_BadTerms)
  have F_check_near_form := fun_mk (st := s_check_near_form) l_check_near_form c_check_near_form k_check_near_form
  have b_check_near_form := F_check_near_form.binds (ps := ["x", "y", "price"]) fun _ _ _ _ _ _ us hl => on3 (P := fun us => bindArgs _ ⟨us, []⟩ = pure (List.zip _ us)) (fun _ _ _ => rfl) us hl
  have D_check_near_form := isDef_mk (P := l.prog) (w := w) (base := base) F_check_near_form (W.mg_of X G a_check_near_form) b_check_near_form (ok_check_near_form F_check_near_form T c_WORTH_MOST D_is_word D_is_between e_BadNear)
  have F_near_prices := fun_mk (st := s_near_prices) l_near_prices c_near_prices k_near_prices
  have b_near_prices := F_near_prices.binds (ps := ["near"]) fun _ _ _ _ _ _ us hl => on1 (P := fun us => bindArgs _ ⟨us, []⟩ = pure (List.zip _ us)) (fun _ => rfl) us hl
  have D_near_prices := isDef_mk (P := l.prog) (w := w) (base := base) F_near_prices (W.mg_of X G a_near_prices) b_near_prices (ok_near_prices F_near_prices T c_NEAR_MOST D_check_near_form e_BadNear)
  have F_Terms___init__ := funD_mk (st := s_Terms___init__) l_Terms___init__ c_Terms___init__ k_Terms___init__
  have O_Terms___init__ := ok_Terms___init__ (P := l.prog) (w := w) (base := base) F_Terms___init__ T c_WORTH_MOST c_PART_MOST D_check_number D_near_prices Tc
  have b_N6_Terms : Binds K (W.fnOf "__init__" "Terms.__init__" (defArgs s_Terms___init__) (defBody s_Terms___init__) (defScope s_Terms___init__) (.ref dA_Terms___init__) kV_Terms___init__ dc_Terms___init__ pm_Terms___init__ an_Terms___init__ cd_Terms___init__ ct_Terms___init__) ["self", "same", "out", "into", "least", "part", "near"] [] := fun s us hK hl => by
    have hl2 : us.length = 7 := by simpa using hl
    match us, hl2 with | [_, _, _, _, _, _, _], _ => exact BindsTo.of_defaults rfl (hK _ _ dv_Terms___init__) rfl rfl rfl
  have N6_Terms : IsNew l.prog w K mg base true 5 "Terms" C_Terms ["self", "same", "out", "into", "least", "part", "near"] [] (sp_init C_Terms C_BadTerms C_BadNear) := isNew_mk O_Terms___init__ ⟨gm_Terms, a_Terms___init__, i_Terms___init__, gk_Terms⟩ m_Terms b_N6_Terms (.nil)
  have F_Terms_pair_worth := funD_mk (st := s_Terms_pair_worth) l_Terms_pair_worth c_Terms_pair_worth k_Terms_pair_worth
  have O_Terms_pair_worth := ok_Terms_pair_worth (P := l.prog) (w := w) (base := base) F_Terms_pair_worth T Tc
  have b_Terms_pair_worth : Binds K (W.fnOf "pair_worth" "Terms.pair_worth" (defArgs s_Terms_pair_worth) (defBody s_Terms_pair_worth) (defScope s_Terms_pair_worth) .none kV_Terms_pair_worth dc_Terms_pair_worth pm_Terms_pair_worth an_Terms_pair_worth cd_Terms_pair_worth ct_Terms_pair_worth) ["self", "x", "y"] [] := .all fun us hl => on3 (P := fun us => bindArgs _ ⟨us, []⟩ = pure (List.zip _ us)) (fun _ _ _ => rfl) us hl
  have M_Terms_pair_worth : IsMeth l.prog w K mg base true 1 C_Terms "pair_worth" ["self", "x", "y"] (sp_pair C_Terms) := isMeth_mk O_Terms_pair_worth ⟨a_Terms_pair_worth, i_Terms_pair_worth, k_Terms_pair_worth⟩ b_Terms_pair_worth cl_Terms
  have F_greatest := fun_mk (st := s_greatest) l_greatest c_greatest k_greatest
  have b_greatest := F_greatest.binds (ps := ["numbers"]) fun _ _ _ _ _ _ us hl => on1 (P := fun us => bindArgs _ ⟨us, []⟩ = pure (List.zip _ us)) (fun _ => rfl) us hl
  have D_greatest := isDef_mk (P := l.prog) (w := w) (base := base) F_greatest (W.mg_of X G a_greatest) b_greatest (ok_greatest F_greatest T)
  have F_less := fun_mk (st := s_less) l_less c_less k_less
  have b_less := F_less.binds (ps := ["number", "price"]) fun _ _ _ _ _ _ us hl => on2 (P := fun us => bindArgs _ ⟨us, []⟩ = pure (List.zip _ us)) (fun _ _ => rfl) us hl
  have D_less := isDef_mk (P := l.prog) (w := w) (base := base) F_less (W.mg_of X G a_less) b_less (ok_less F_less T)
  have F_begun_or_gone_on := fun_mk (st := s_begun_or_gone_on) l_begun_or_gone_on c_begun_or_gone_on k_begun_or_gone_on
  have b_begun_or_gone_on := F_begun_or_gone_on.binds (ps := ["worth", "brought"]) fun _ _ _ _ _ _ us hl => on2 (P := fun us => bindArgs _ ⟨us, []⟩ = pure (List.zip _ us)) (fun _ _ => rfl) us hl
  have D_begun_or_gone_on := isDef_mk (P := l.prog) (w := w) (base := base) F_begun_or_gone_on (W.mg_of X G a_begun_or_gone_on) b_begun_or_gone_on (ok_begun_or_gone_on F_begun_or_gone_on T)
  have F_Trails_brought_behind := funD_mk (st := s_Trails_brought_behind) l_Trails_brought_behind c_Trails_brought_behind k_Trails_brought_behind
  have O_Trails_brought_behind := ok_Trails_brought_behind (P := l.prog) (w := w) (base := base) F_Trails_brought_behind T D_greatest D_less Rc
  have b_Trails_brought_behind : Binds K (W.fnOf "brought_behind" "Trails.brought_behind" (defArgs s_Trails_brought_behind) (defBody s_Trails_brought_behind) (defScope s_Trails_brought_behind) .none kV_Trails_brought_behind dc_Trails_brought_behind pm_Trails_brought_behind an_Trails_brought_behind cd_Trails_brought_behind ct_Trails_brought_behind) ["self", "ended", "above"] [] := .all fun us hl => on3 (P := fun us => bindArgs _ ⟨us, []⟩ = pure (List.zip _ us)) (fun _ _ _ => rfl) us hl
  have M_Trails_brought_behind : IsMeth l.prog w K mg base true 2 C_Trails "brought_behind" ["self", "ended", "above"] (sp_behind C_Trails) := isMeth_mk O_Trails_brought_behind ⟨a_Trails_brought_behind, i_Trails_brought_behind, k_Trails_brought_behind⟩ b_Trails_brought_behind cl_Trails
  have F_Trails___init__ := funD_mk (st := s_Trails___init__) l_Trails___init__ c_Trails___init__ k_Trails___init__
  have O_Trails___init__ := ok_Trails___init__ (P := l.prog) (w := w) (base := base) F_Trails___init__ T D_begun_or_gone_on M_Trails_brought_behind Tc Rc
  have b_N2_Trails : Binds K (W.fnOf "__init__" "Trails.__init__" (defArgs s_Trails___init__) (defBody s_Trails___init__) (defScope s_Trails___init__) .none kV_Trails___init__ dc_Trails___init__ pm_Trails___init__ an_Trails___init__ cd_Trails___init__ ct_Trails___init__) ["self", "worths", "terms"] [] := .all fun us hl => on3 (P := fun us => bindArgs _ ⟨us, []⟩ = pure (List.zip _ us)) (fun _ _ _ => rfl) us hl
  have N2_Trails : IsNew l.prog w K mg base true 4 "Trails" C_Trails ["self", "worths", "terms"] [] (sp_tinit C_Trails C_Terms) := isNew_mk O_Trails___init__ ⟨gm_Trails, a_Trails___init__, i_Trails___init__, gk_Trails⟩ m_Trails b_N2_Trails (.nil)
  have F_shut_by := fun_mk (st := s_shut_by) l_shut_by c_shut_by k_shut_by
  have b_shut_by := F_shut_by.binds (ps := ["taken"]) fun _ _ _ _ _ _ us hl => on1 (P := fun us => bindArgs _ ⟨us, []⟩ = pure (List.zip _ us)) (fun _ => rfl) us hl
  have D_shut_by := isDef_mk (P := l.prog) (w := w) (base := base) F_shut_by (W.mg_of X G a_shut_by) b_shut_by (ok_shut_by F_shut_by T)
  have F_open_worths := fun_mk (st := s_open_worths) l_open_worths c_open_worths k_open_worths
  have b_open_worths := F_open_worths.binds (ps := ["first", "second", "terms", "taken"]) fun _ _ _ _ _ _ us hl => on4 (P := fun us => bindArgs _ ⟨us, []⟩ = pure (List.zip _ us)) (fun _ _ _ _ => rfl) us hl
  have D_open_worths := isDef_mk (P := l.prog) (w := w) (base := base) F_open_worths (W.mg_of X G a_open_worths) b_open_worths (ok_open_worths F_open_worths T D_shut_by M_Terms_pair_worth Tc)
  have F_read_backwards := fun_mk (st := s_read_backwards) l_read_backwards c_read_backwards k_read_backwards
  have b_read_backwards := F_read_backwards.binds (ps := ["table"]) fun _ _ _ _ _ _ us hl => on1 (P := fun us => bindArgs _ ⟨us, []⟩ = pure (List.zip _ us)) (fun _ => rfl) us hl
  have D_read_backwards := isDef_mk (P := l.prog) (w := w) (base := base) F_read_backwards (W.mg_of X G a_read_backwards) b_read_backwards (ok_read_backwards F_read_backwards T n_reversed)
  have F_starting_table := fun_mk (st := s_starting_table) l_starting_table c_starting_table k_starting_table
  have b_starting_table := F_starting_table.binds (ps := ["worths", "terms"]) fun _ _ _ _ _ _ us hl => on2 (P := fun us => bindArgs _ ⟨us, []⟩ = pure (List.zip _ us)) (fun _ _ => rfl) us hl
  have D_starting_table := isDef_mk (P := l.prog) (w := w) (base := base) F_starting_table (W.mg_of X G a_starting_table) b_starting_table (ok_starting_table F_starting_table T D_read_backwards N2_Trails Rc)
  have F_through_worth := fun_mk (st := s_through_worth) l_through_worth c_through_worth k_through_worth
  have b_through_worth := F_through_worth.binds (ps := ["worth", "ending", "starting"]) fun _ _ _ _ _ _ us hl => on3 (P := fun us => bindArgs _ ⟨us, []⟩ = pure (List.zip _ us)) (fun _ _ _ => rfl) us hl
  have D_through_worth := isDef_mk (P := l.prog) (w := w) (base := base) F_through_worth (W.mg_of X G a_through_worth) b_through_worth (ok_through_worth F_through_worth T)
  have F_best_through := funD_mk (st := s_best_through) l_best_through c_best_through k_best_through
  have O_best_through := ok_best_through (P := l.prog) (w := w) (base := base) F_best_through T D_open_worths N2_Trails Rc D_starting_table D_through_worth
  have b3_best_through : Binds K (W.fnOf "best_through" "best_through" (defArgs s_best_through) (defBody s_best_through) (defScope s_best_through) (.ref dA_best_through) kV_best_through dc_best_through pm_best_through an_best_through cd_best_through ct_best_through) ["first", "second", "terms", "taken"] [.none] := fun s us hK hl => by
    have hl2 : us.length = 3 := by simpa using hl
    match us, hl2 with | [_, _, _], _ => exact BindsTo.of_defaults rfl (hK _ _ dv_best_through) rfl rfl rfl
  have D3_best_through : IsDefD l.prog w K mg base true 7 "best_through" ["first", "second", "terms", "taken"] [.non] (sp_best C_Terms thruF) := ⟨_, _, [.none], O_best_through, W.mg_of X G a_best_through, k_best_through, b3_best_through, .cons rfl .nil⟩
  have b4_best_through : Binds K (W.fnOf "best_through" "best_through" (defArgs s_best_through) (defBody s_best_through) (defScope s_best_through) (.ref dA_best_through) kV_best_through dc_best_through pm_best_through an_best_through cd_best_through ct_best_through) ["first", "second", "terms", "taken"] [] := fun s us hK hl => by
    have hl2 : us.length = 4 := by simpa using hl
    match us, hl2 with | [_, _, _, _], _ => exact BindsTo.of_defaults rfl (hK _ _ dv_best_through) rfl rfl rfl
  have D4_best_through : IsDefD l.prog w K mg base true 7 "best_through" ["first", "second", "terms", "taken"] [] (sp_best C_Terms thruF) := ⟨_, _, [], O_best_through, W.mg_of X G a_best_through, k_best_through, b4_best_through, .nil⟩
  have F__law_at := fun_mk (st := s__law_at) l__law_at c__law_at k__law_at
  have b__law_at := F__law_at.binds (ps := ["_law_script", "_law_k"]) fun _ _ _ _ _ _ us hl => on2 (P := fun us => bindArgs _ ⟨us, []⟩ = pure (List.zip _ us)) (fun _ _ => rfl) us hl
  have D__law_at := isDef_mk (P := l.prog) (w := w) (base := base) F__law_at (W.mg_of X G a__law_at) b__law_at (ok__law_at F__law_at T)
  have F__law_whole := fun_mk (st := s__law_whole) l__law_whole c__law_whole k__law_whole
  have b__law_whole := F__law_whole.binds (ps := ["_law_found"]) fun _ _ _ _ _ _ us hl => on1 (P := fun us => bindArgs _ ⟨us, []⟩ = pure (List.zip _ us)) (fun _ => rfl) us hl
  have D__law_whole := isDef_mk (P := l.prog) (w := w) (base := base) F__law_whole (W.mg_of X G a__law_whole) b__law_whole (ok__law_whole F__law_whole T)
  have F__law_bank := fun_mk (st := s__law_bank) l__law_bank c__law_bank k__law_bank
  have b__law_bank := F__law_bank.binds (ps := ["_law_cell", "_law_other", "_law_many"]) fun _ _ _ _ _ _ us hl => on3 (P := fun us => bindArgs _ ⟨us, []⟩ = pure (List.zip _ us)) (fun _ _ _ => rfl) us hl
  have D__law_bank := isDef_mk (P := l.prog) (w := w) (base := base) F__law_bank (W.mg_of X G a__law_bank) b__law_bank (ok__law_bank F__law_bank T)
  have F__law_book := fun_mk (st := s__law_book) l__law_book c__law_book k__law_book
  have b__law_book := F__law_book.binds (ps := ["_law_script", "_law_cell", "_law_spot", "_law_many", "_law_bank_here"]) fun _ _ _ _ _ _ us hl => on5 (P := fun us => bindArgs _ ⟨us, []⟩ = pure (List.zip _ us)) (fun _ _ _ _ _ => rfl) us hl
  have D__law_book := isDef_mk (P := l.prog) (w := w) (base := base) F__law_book (W.mg_of X G a__law_book) b__law_book (ok__law_book F__law_book T D__law_at)
  have F__law_quote := fun_mk (st := s__law_quote) l__law_quote c__law_quote k__law_quote
  have b__law_quote := F__law_quote.binds (ps := ["_law_script", "_law_cell", "_law_spot", "_law_many", "_law_first", "_law_bank_here"]) fun _ _ _ _ _ _ us hl => on6 (P := fun us => bindArgs _ ⟨us, []⟩ = pure (List.zip _ us)) (fun _ _ _ _ _ _ => rfl) us hl
  have D__law_quote := isDef_mk (P := l.prog) (w := w) (base := base) F__law_quote (W.mg_of X G a__law_quote) b__law_quote (ok__law_quote F__law_quote T D__law_at)
  have F__law_numbers := fun_mk (st := s__law_numbers) l__law_numbers c__law_numbers k__law_numbers
  have b__law_numbers := F__law_numbers.binds (ps := ["_law_script", "_law_spot"]) fun _ _ _ _ _ _ us hl => on2 (P := fun us => bindArgs _ ⟨us, []⟩ = pure (List.zip _ us)) (fun _ _ => rfl) us hl
  have D__law_numbers := isDef_mk (P := l.prog) (w := w) (base := base) F__law_numbers (W.mg_of X G a__law_numbers) b__law_numbers (ok__law_numbers F__law_numbers T D__law_at)
  have F__law_near := fun_mk (st := s__law_near) l__law_near c__law_near k__law_near
  have b__law_near := F__law_near.binds (ps := ["_law_cell", "_law_bank_here", "_law_same"]) fun _ _ _ _ _ _ us hl => on3 (P := fun us => bindArgs _ ⟨us, []⟩ = pure (List.zip _ us)) (fun _ _ _ => rfl) us hl
  have D__law_near := isDef_mk (P := l.prog) (w := w) (base := base) F__law_near (W.mg_of X G a__law_near) b__law_near (ok__law_near F__law_near T)
  have F__law_case := fun_mk (st := s__law_case) l__law_case c__law_case k__law_case
  have b__law_case := F__law_case.binds (ps := ["_law_script", "_law_most"]) fun _ _ _ _ _ _ us hl => on2 (P := fun us => bindArgs _ ⟨us, []⟩ = pure (List.zip _ us)) (fun _ _ => rfl) us hl
  have D__law_case := isDef_mk (P := l.prog) (w := w) (base := base) F__law_case (W.mg_of X G a__law_case) b__law_case (ok__law_case F__law_case T D__law_at D__law_bank D__law_book D__law_quote D__law_numbers D__law_near)
  have F__law_pair := fun_mk (st := s__law_pair) l__law_pair c__law_pair k__law_pair
  have b__law_pair := F__law_pair.binds (ps := ["_law_x", "_law_y", "_law_same", "_law_near_here"]) fun _ _ _ _ _ _ us hl => on4 (P := fun us => bindArgs _ ⟨us, []⟩ = pure (List.zip _ us)) (fun _ _ _ _ => rfl) us hl
  have D__law_pair := isDef_mk (P := l.prog) (w := w) (base := base) F__law_pair (W.mg_of X G a__law_pair) b__law_pair (ok__law_pair F__law_pair T)
  have F__law_worth := fun_mk (st := s__law_worth) l__law_worth c__law_worth k__law_worth
  have b__law_worth := F__law_worth.binds (ps := ["_law_case_here", "_law_way"]) fun _ _ _ _ _ _ us hl => on2 (P := fun us => bindArgs _ ⟨us, []⟩ = pure (List.zip _ us)) (fun _ _ => rfl) us hl
  have D__law_worth := isDef_mk (P := l.prog) (w := w) (base := base) F__law_worth (W.mg_of X G a__law_worth) b__law_worth (ok__law_worth F__law_worth T D__law_pair)
  have F__law_ways := fun_mk (st := s__law_ways) l__law_ways c__law_ways k__law_ways
  have b__law_ways := F__law_ways.binds (ps := ["_law_case_here", "_law_shut"]) fun _ _ _ _ _ _ us hl => on2 (P := fun us => bindArgs _ ⟨us, []⟩ = pure (List.zip _ us)) (fun _ _ => rfl) us hl
  have D__law_ways := isDef_mk (P := l.prog) (w := w) (base := base) F__law_ways (W.mg_of X G a__law_ways) b__law_ways (ok__law_ways F__law_ways T D__law_pair)
  have F__law_texts := fun_mk (st := s__law_texts) l__law_texts c__law_texts k__law_texts
  have b__law_texts := F__law_texts.binds (ps := ["_law_found", "_law_due"]) fun _ _ _ _ _ _ us hl => on2 (P := fun us => bindArgs _ ⟨us, []⟩ = pure (List.zip _ us)) (fun _ _ => rfl) us hl
  have D__law_texts := isDef_mk (P := l.prog) (w := w) (base := base) F__law_texts (W.mg_of X G a__law_texts) b__law_texts (ok__law_texts F__law_texts T)
  have F__law_table := fun_mk (st := s__law_table) l__law_table c__law_table k__law_table
  have b__law_table := F__law_table.binds (ps := ["_law_found", "_law_due"]) fun _ _ _ _ _ _ us hl => on2 (P := fun us => bindArgs _ ⟨us, []⟩ = pure (List.zip _ us)) (fun _ _ => rfl) us hl
  have D__law_table := isDef_mk (P := l.prog) (w := w) (base := base) F__law_table (W.mg_of X G a__law_table) b__law_table (ok__law_table F__law_table T D__law_whole)
  have F__law_taken := fun_mk (st := s__law_taken) l__law_taken c__law_taken k__law_taken
  have b__law_taken := F__law_taken.binds (ps := ["_law_case_here", "_law_cell", "_law_other"]) fun _ _ _ _ _ _ us hl => on3 (P := fun us => bindArgs _ ⟨us, []⟩ = pure (List.zip _ us)) (fun _ _ _ => rfl) us hl
  have D__law_taken := isDef_mk (P := l.prog) (w := w) (base := base) F__law_taken (W.mg_of X G a__law_taken) b__law_taken (ok__law_taken F__law_taken T)
  have F__law_terms := fun_mk (st := s__law_terms) l__law_terms c__law_terms k__law_terms
  have b__law_terms := F__law_terms.binds (ps := ["_law_case_here"]) fun _ _ _ _ _ _ us hl => on1 (P := fun us => bindArgs _ ⟨us, []⟩ = pure (List.zip _ us)) (fun _ => rfl) us hl
  have D__law_terms := isDef_mk (P := l.prog) (w := w) (base := base) F__law_terms (W.mg_of X G a__law_terms) b__law_terms (ok__law_terms F__law_terms T N6_Terms)
  have F__law_asked := fun_mk (st := s__law_asked) l__law_asked c__law_asked k__law_asked
  have b__law_asked := F__law_asked.binds (ps := ["_law_case_here", "_law_terms_here", "_law_shut", "_law_how"]) fun _ _ _ _ _ _ us hl => on4 (P := fun us => bindArgs _ ⟨us, []⟩ = pure (List.zip _ us)) (fun _ _ _ _ => rfl) us hl
  have D__law_asked := isDef_mk (P := l.prog) (w := w) (base := base) F__law_asked (W.mg_of X G a__law_asked) b__law_asked (ok__law_asked F__law_asked T D3_best_through D4_best_through)
  have F_law := fun_mk (st := s_law) l_law c_law k_law
  exact ok_law F_law T D__law_at D__law_case D__law_taken D__law_ways D__law_worth D__law_terms D__law_asked D__law_table D__law_texts D4_best_through
theorem walk {l : W.OpenLaw} {q : Program} {loose : List Str} {XP : (Str → Option Value) → Heap → Prop} {YP : World → Heap → Prop} {d : DefRec} {K : Params → W.Frag} (hn : l.most = some 63) (hdf : d.params.defaults = [])
    (hY : ∀ (w : World) (h : Heap), YP w h → (K w.params).In h)
    (F : ∀ (w : World) (mg : Str → Option Value) (fa : Addr) (h : Heap), (K w.params).In h → h.Ns mainGlobals mg → mg d.name = some (.ref fa) →
      ∃ fd : FuncData, (∀ (s : Shared) (u : Value), BindsTo s fd ⟨[u], []⟩ [("_law_script", u)]) ∧ ∀ base : Heap, (K w.params).In base → base.Ns mainGlobals mg → FnOk l.prog w (K w.params) mg base (CXF l.prog w) true 10 fa fd ["_law_script"] (spLaw (K w.params))) :
    W.WalkO q loose XP YP l.row.toRowW d [] (fun f vs => PySem.call f vs) :=
  L2.walk_of (n := 63) (k := 10) (x := "_law_script") (CX := fun w => CXF l.prog w) (sp := fun w => spLaw (K w.params)) hn (by decide) hdf ⟨(fun _ => rfl), by decide, by decide⟩ hY F (fun _ _ a ns hl _ hS => ⟨a, ns, rfl, hS, hl, fun _ => rfl⟩) fun _ _ _ _ _ ⟨_, _, _, _, _, _, _, _, _, _, _, _, _, z⟩ => z
end K12
namespace HD
open PySem PySem.W PyProof.Rows L2
noncomputable section
noncomputable abbrev pw : Program := PySem.Challenge.pw_quotefind_k12_best_through
theorem prime : (pw.main.body.length == 48) = true := by k_qdec
noncomputable abbrev pq : Program := PySem.W.Fast.tw8841554485908793689
theorem pwq : pw = pq := PySem.W.Fast.te8841554485908793689
noncomputable def z0 : Str := ⟨⟨[60,109,111,100,117,108,101,62]⟩⟩
noncomputable def z1 : Str := ⟨⟨[95,95,109,97,105,110,95,95]⟩⟩
noncomputable def z2 : Str := ⟨⟨[95,95,110,97,109,101,95,95]⟩⟩
noncomputable def z3 : Str := ⟨⟨[108,97,119,95,113,117,111,116,101,102,105,110,100,95,107,49,50,95,98,101,115,116,95,116,104,114,111,117,103,104]⟩⟩
noncomputable def z4 : Str := ⟨⟨[95,95,100,111,99,95,95]⟩⟩
noncomputable def z5 : Str := ⟨⟨[95,95,112,97,99,107,97,103,101,95,95]⟩⟩
noncomputable def z6 : Str := ⟨⟨[95,95,108,111,97,100,101,114,95,95]⟩⟩
noncomputable def z7 : Str := ⟨⟨[95,95,115,112,101,99,95,95]⟩⟩
noncomputable def z8 : Str := ⟨⟨[95,95,97,110,110,111,116,97,116,105,111,110,115,95,95]⟩⟩
noncomputable def z9 : Str := ⟨⟨[95,95,98,117,105,108,116,105,110,115,95,95]⟩⟩
noncomputable def z10 : Str := ⟨⟨[95,95,102,105,108,101,95,95]⟩⟩
noncomputable def z11 : Str := ⟨⟨[47,99,108,97,105,109,47,99,117,116,46,112,121]⟩⟩
noncomputable def z12 : Str := ⟨⟨[95,95,99,97,99,104,101,100,95,95]⟩⟩
noncomputable def z13 : Str := ⟨⟨[95,119,97,108,108]⟩⟩
noncomputable def z14 : Str := ⟨⟨[103,114,101,97,116,101,115,116]⟩⟩
noncomputable def z15 : Str := ⟨⟨[108,101,115,115]⟩⟩
noncomputable def z16 : Str := ⟨⟨[98,101,103,117,110,95,111,114,95,103,111,110,101,95,111,110]⟩⟩
noncomputable def z17 : Str := ⟨⟨[84,114,97,105,108,115]⟩⟩
noncomputable def z18 : Str := ⟨⟨[115,104,117,116,95,98,121]⟩⟩
noncomputable def z19 : Str := ⟨⟨[111,112,101,110,95,119,111,114,116,104,115]⟩⟩
noncomputable def z20 : Str := ⟨⟨[114,101,97,100,95,98,97,99,107,119,97,114,100,115]⟩⟩
noncomputable def z21 : Str := ⟨⟨[115,116,97,114,116,105,110,103,95,116,97,98,108,101]⟩⟩
noncomputable def z22 : Str := ⟨⟨[116,104,114,111,117,103,104,95,119,111,114,116,104]⟩⟩
noncomputable def z23 : Str := ⟨⟨[98,101,115,116,95,116,104,114,111,117,103,104]⟩⟩
noncomputable def z24 : Str := ⟨⟨[81,117,111,116,101,69,114,114,111,114]⟩⟩
noncomputable def z25 : Str := ⟨⟨[66,97,100,84,101,114,109,115]⟩⟩
noncomputable def z26 : Str := ⟨⟨[66,97,100,78,101,97,114]⟩⟩
noncomputable def z27 : Str := ⟨⟨[87,79,82,68,95,77,79,83,84]⟩⟩
noncomputable def z28 : Str := ⟨⟨[105,115,95,115,109,97,108,108,95,108,101,116,116,101,114]⟩⟩
noncomputable def z29 : Str := ⟨⟨[105,115,95,119,111,114,100]⟩⟩
noncomputable def z30 : Str := ⟨⟨[87,79,82,84,72,95,77,79,83,84]⟩⟩
noncomputable def z31 : Str := ⟨⟨[78,69,65,82,95,77,79,83,84]⟩⟩
noncomputable def z32 : Str := ⟨⟨[80,65,82,84,95,77,79,83,84]⟩⟩
noncomputable def z33 : Str := ⟨⟨[105,115,95,98,101,116,119,101,101,110]⟩⟩
noncomputable def z34 : Str := ⟨⟨[99,104,101,99,107,95,110,117,109,98,101,114]⟩⟩
noncomputable def z35 : Str := ⟨⟨[99,104,101,99,107,95,110,101,97,114,95,102,111,114,109]⟩⟩
noncomputable def z36 : Str := ⟨⟨[110,101,97,114,95,112,114,105,99,101,115]⟩⟩
noncomputable def z37 : Str := ⟨⟨[84,101,114,109,115]⟩⟩
noncomputable def z38 : Str := ⟨⟨[95,108,97,119,95,97,116]⟩⟩
noncomputable def z39 : Str := ⟨⟨[95,108,97,119,95,119,104,111,108,101]⟩⟩
noncomputable def z40 : Str := ⟨⟨[95,108,97,119,95,98,97,110,107]⟩⟩
noncomputable def z41 : Str := ⟨⟨[95,108,97,119,95,98,111,111,107]⟩⟩
noncomputable def z42 : Str := ⟨⟨[95,108,97,119,95,113,117,111,116,101]⟩⟩
noncomputable def z43 : Str := ⟨⟨[95,108,97,119,95,110,117,109,98,101,114,115]⟩⟩
noncomputable def z44 : Str := ⟨⟨[95,108,97,119,95,110,101,97,114]⟩⟩
noncomputable def z45 : Str := ⟨⟨[95,108,97,119,95,99,97,115,101]⟩⟩
noncomputable def z46 : Str := ⟨⟨[95,108,97,119,95,112,97,105,114]⟩⟩
noncomputable def z47 : Str := ⟨⟨[95,108,97,119,95,119,111,114,116,104]⟩⟩
noncomputable def z48 : Str := ⟨⟨[95,108,97,119,95,119,97,121,115]⟩⟩
noncomputable def z49 : Str := ⟨⟨[95,108,97,119,95,116,101,120,116,115]⟩⟩
noncomputable def z50 : Str := ⟨⟨[95,108,97,119,95,116,97,98,108,101]⟩⟩
noncomputable def z51 : Str := ⟨⟨[95,108,97,119,95,116,97,107,101,110]⟩⟩
noncomputable def z52 : Str := ⟨⟨[95,108,97,119,95,116,101,114,109,115]⟩⟩
noncomputable def z53 : Str := ⟨⟨[95,108,97,119,95,97,115,107,101,100]⟩⟩
noncomputable def z54 : Str := ⟨⟨[108,97,119]⟩⟩
noncomputable def z55 : Str := ⟨⟨[107]⟩⟩
noncomputable def z56 : Str := ⟨⟨[113,117,111,116,101,102,105,110,100,46,116,114,97,105,108,115]⟩⟩
noncomputable def z57 : Str := ⟨⟨[110,117,109,98,101,114]⟩⟩
noncomputable def z58 : Str := ⟨⟨[112,114,105,99,101]⟩⟩
noncomputable def z59 : Str := ⟨⟨[119,111,114,116,104]⟩⟩
noncomputable def z60 : Str := ⟨⟨[98,114,111,117,103,104,116]⟩⟩
noncomputable def z61 : Str := ⟨⟨[95,95,109,111,100,117,108,101,95,95]⟩⟩
noncomputable def z62 : Str := ⟨⟨[95,95,113,117,97,108,110,97,109,101,95,95]⟩⟩
noncomputable def z63 : Str := ⟨⟨[95,95,102,105,114,115,116,108,105,110,101,110,111,95,95]⟩⟩
noncomputable def z64 : Str := ⟨⟨[95,95,105,110,105,116,95,95]⟩⟩
noncomputable def z65 : Str := ⟨⟨[98,114,111,117,103,104,116,95,98,101,104,105,110,100]⟩⟩
noncomputable def z66 : Str := ⟨⟨[103,111,101,115,95,111,110]⟩⟩
noncomputable def z67 : Str := ⟨⟨[99,114,111,115,115,105,110,103,115,95,98,101,102,111,114,101]⟩⟩
noncomputable def z68 : Str := ⟨⟨[105,115,95,98,114,111,117,103,104,116,95,98,121]⟩⟩
noncomputable def z69 : Str := ⟨⟨[112,97,105,114,95,98,101,102,111,114,101]⟩⟩
noncomputable def z70 : Str := ⟨⟨[119,97,121,95,116,111]⟩⟩
noncomputable def z71 : Str := ⟨⟨[95,95,115,116,97,116,105,99,95,97,116,116,114,105,98,117,116,101,115,95,95]⟩⟩
noncomputable def z72 : Str := ⟨⟨[84,114,97,105,108,115,46,95,95,105,110,105,116,95,95]⟩⟩
noncomputable def z73 : Str := ⟨⟨[115,101,108,102]⟩⟩
noncomputable def z74 : Str := ⟨⟨[101,110,100,101,100]⟩⟩
noncomputable def z75 : Str := ⟨⟨[97,98,111,118,101]⟩⟩
noncomputable def z76 : Str := ⟨⟨[114,111,119]⟩⟩
noncomputable def z77 : Str := ⟨⟨[106]⟩⟩
noncomputable def z78 : Str := ⟨⟨[84,114,97,105,108,115,46,98,114,111,117,103,104,116,95,98,101,104,105,110,100]⟩⟩
noncomputable def z79 : Str := ⟨⟨[112,97,105,114]⟩⟩
noncomputable def z80 : Str := ⟨⟨[84,114,97,105,108,115,46,103,111,101,115,95,111,110]⟩⟩
noncomputable def z81 : Str := ⟨⟨[99,114,111,115,115,105,110,103]⟩⟩
noncomputable def z82 : Str := ⟨⟨[84,114,97,105,108,115,46,99,114,111,115,115,105,110,103,115,95,98,101,102,111,114,101]⟩⟩
noncomputable def z83 : Str := ⟨⟨[84,114,97,105,108,115,46,105,115,95,98,114,111,117,103,104,116,95,98,121]⟩⟩
noncomputable def z84 : Str := ⟨⟨[84,114,97,105,108,115,46,112,97,105,114,95,98,101,102,111,114,101]⟩⟩
noncomputable def z85 : Str := ⟨⟨[84,114,97,105,108,115,46,119,97,121,95,116,111]⟩⟩
noncomputable def z86 : Str := ⟨⟨[101,110,100,105,110,103]⟩⟩
noncomputable def z87 : Str := ⟨⟨[105,110,116,111]⟩⟩
noncomputable def z88 : Str := ⟨⟨[111,117,116]⟩⟩
noncomputable def z89 : Str := ⟨⟨[95,95,100,105,99,116,95,95]⟩⟩
noncomputable def z90 : Str := ⟨⟨[95,95,119,101,97,107,114,101,102,95,95]⟩⟩
noncomputable def z91 : Str := ⟨⟨[116,97,107,101,110]⟩⟩
noncomputable def z92 : Str := ⟨⟨[115,104,117,116]⟩⟩
noncomputable def z93 : Str := ⟨⟨[113,117,111,116,101,102,105,110,100,46,116,97,98,108,101,115]⟩⟩
noncomputable def z94 : Str := ⟨⟨[119,111,114,116,104,115]⟩⟩
noncomputable def z95 : Str := ⟨⟨[116,101,114,109,115]⟩⟩
noncomputable def z96 : Str := ⟨⟨[115,116,97,114,116,105,110,103]⟩⟩
noncomputable def z97 : Str := ⟨⟨[113,117,111,116,101,102,105,110,100,46,101,114,114,111,114,115]⟩⟩
noncomputable def z98 : Str := ⟨⟨[115,105,103,110]⟩⟩
noncomputable def z99 : Str := ⟨⟨[113,117,111,116,101,102,105,110,100,46,119,111,114,100,115]⟩⟩
noncomputable def z100 : Str := ⟨⟨[108,111,119]⟩⟩
noncomputable def z101 : Str := ⟨⟨[104,105,103,104]⟩⟩
noncomputable def z102 : Str := ⟨⟨[113,117,111,116,101,102,105,110,100,46,116,101,114,109,115]⟩⟩
noncomputable def z103 : Str := ⟨⟨[110,97,109,101]⟩⟩
noncomputable def z104 : Str := ⟨⟨[120]⟩⟩
noncomputable def z105 : Str := ⟨⟨[121]⟩⟩
noncomputable def z106 : Str := ⟨⟨[110,101,97,114]⟩⟩
noncomputable def z107 : Str := ⟨⟨[112,114,105,99,101,115]⟩⟩
noncomputable def z108 : Str := ⟨⟨[112,97,105,114,95,119,111,114,116,104]⟩⟩
noncomputable def z109 : Str := ⟨⟨[116,117,114,110,101,100]⟩⟩
noncomputable def z110 : Str := ⟨⟨[115,97,109,101]⟩⟩
noncomputable def z111 : Str := ⟨⟨[108,101,97,115,116]⟩⟩
noncomputable def z112 : Str := ⟨⟨[112,97,114,116]⟩⟩
noncomputable def z113 : Str := ⟨⟨[84,101,114,109,115,46,95,95,105,110,105,116,95,95]⟩⟩
noncomputable def z114 : Str := ⟨⟨[84,101,114,109,115,46,112,97,105,114,95,119,111,114,116,104]⟩⟩
noncomputable def z115 : Str := ⟨⟨[84,101,114,109,115,46,116,117,114,110,101,100]⟩⟩
noncomputable def z116 : Str := ⟨⟨[95,108,97,119,95,115,99,114,105,112,116]⟩⟩
noncomputable def z117 : Str := ⟨⟨[95,108,97,119,95,107]⟩⟩
noncomputable def z118 : Str := ⟨⟨[95,108,97,119,95,102,111,117,110,100]⟩⟩
noncomputable def z119 : Str := ⟨⟨[95,108,97,119,95,99,101,108,108]⟩⟩
noncomputable def z120 : Str := ⟨⟨[95,108,97,119,95,111,116,104,101,114]⟩⟩
noncomputable def z121 : Str := ⟨⟨[95,108,97,119,95,109,97,110,121]⟩⟩
noncomputable def z122 : Str := ⟨⟨[95,108,97,119,95,108,101,116,116,101,114,115]⟩⟩
noncomputable def z123 : Str := ⟨⟨[95,108,97,119,95,115,116,101,109]⟩⟩
noncomputable def z124 : Str := ⟨⟨[95,108,97,119,95,114,101,115,116]⟩⟩
noncomputable def z125 : Str := ⟨⟨[95,108,97,119,95,115,105,122,101]⟩⟩
noncomputable def z126 : Str := ⟨⟨[95,108,97,119,95,115,112,111,116]⟩⟩
noncomputable def z127 : Str := ⟨⟨[95,108,97,119,95,115,105,103,110]⟩⟩
noncomputable def z128 : Str := ⟨⟨[95,108,97,119,95,98,97,110,107,95,104,101,114,101]⟩⟩
noncomputable def z129 : Str := ⟨⟨[95,108,97,119,95,98,111,111,107,95,104,101,114,101]⟩⟩
noncomputable def z130 : Str := ⟨⟨[95,108,97,119,95,102,105,114,115,116]⟩⟩
noncomputable def z131 : Str := ⟨⟨[95,108,97,119,95,112,108,97,99,101]⟩⟩
noncomputable def z132 : Str := ⟨⟨[95,108,97,119,95,112,105,99,107]⟩⟩
noncomputable def z133 : Str := ⟨⟨[95,108,97,119,95,115,97,109,101]⟩⟩
noncomputable def z134 : Str := ⟨⟨[95,108,97,119,95,120]⟩⟩
noncomputable def z135 : Str := ⟨⟨[95,108,97,119,95,121]⟩⟩
noncomputable def z136 : Str := ⟨⟨[95,108,97,119,95,112,114,105,99,101]⟩⟩
noncomputable def z137 : Str := ⟨⟨[95,108,97,119,95,109,111,115,116]⟩⟩
noncomputable def z138 : Str := ⟨⟨[95,108,97,119,95,111,110,101]⟩⟩
noncomputable def z139 : Str := ⟨⟨[95,108,97,119,95,115,101,99,111,110,100]⟩⟩
noncomputable def z140 : Str := ⟨⟨[95,108,97,119,95,110,117,109,98,101,114,115,95,104,101,114,101]⟩⟩
noncomputable def z141 : Str := ⟨⟨[95,108,97,119,95,110,101,97,114,95,104,101,114,101]⟩⟩
noncomputable def z142 : Str := ⟨⟨[95,108,97,119,95,111,108,100]⟩⟩
noncomputable def z143 : Str := ⟨⟨[95,108,97,119,95,110,101,119]⟩⟩
noncomputable def z144 : Str := ⟨⟨[95,108,97,119,95,99,97,115,101,95,104,101,114,101]⟩⟩
noncomputable def z145 : Str := ⟨⟨[95,108,97,119,95,119,97,121]⟩⟩
noncomputable def z146 : Str := ⟨⟨[95,108,97,119,95,116,111,116,97,108]⟩⟩
noncomputable def z147 : Str := ⟨⟨[95,108,97,119,95,105]⟩⟩
noncomputable def z148 : Str := ⟨⟨[95,108,97,119,95,106]⟩⟩
noncomputable def z149 : Str := ⟨⟨[95,108,97,119,95,103,97,105,110]⟩⟩
noncomputable def z150 : Str := ⟨⟨[95,108,97,119,95,115,104,117,116]⟩⟩
noncomputable def z151 : Str := ⟨⟨[95,108,97,119,95,102,114,101,115,104]⟩⟩
noncomputable def z152 : Str := ⟨⟨[95,108,97,119,95,100,117,101]⟩⟩
noncomputable def z153 : Str := ⟨⟨[95,108,97,119,95,110]⟩⟩
noncomputable def z154 : Str := ⟨⟨[95,108,97,119,95,116,101,114,109,115,95,104,101,114,101]⟩⟩
noncomputable def z155 : Str := ⟨⟨[95,108,97,119,95,104,111,119]⟩⟩
noncomputable abbrev y0 : String := PySem.W.SL.s658472552662922059x5
noncomputable abbrev y1 : String := PySem.W.SL.s14018661285674007319x4
noncomputable abbrev y2 : String := PySem.W.SL.s7097527257260152453x26
noncomputable abbrev y3 : String := PySem.W.SL.s7174869446012820540x8
noncomputable abbrev y4 : String := PySem.W.SL.s11030030927630378310x26
noncomputable abbrev y5 : String := PySem.W.SL.s10062305145149207511x16
noncomputable abbrev y6 : String := PySem.W.SL.s17162191345867700912x4
noncomputable abbrev y7 : String := PySem.W.SL.s5856160107412720595x4
noncomputable abbrev y8 : String := PySem.W.SL.s2742458400755230247x6
noncomputable abbrev y9 : String := PySem.W.SL.s11443829558043349243x14
noncomputable abbrev y10 : String := PySem.W.SL.s14755015743595814543x17
noncomputable abbrev y11 : String := PySem.W.SL.s6511155373996960695x17
noncomputable abbrev y12 : String := PySem.W.SL.s12411053484034534018x21
noncomputable abbrev y13 : String := PySem.W.SL.s10220274742760427390x26
noncomputable abbrev y14 : String := PySem.W.SL.s4290257624100764138x5
noncomputable abbrev y15 : String := PySem.W.SL.s4860613602091757760x24
noncomputable abbrev y16 : String := PySem.W.SL.s6070975301684473832x10
noncomputable abbrev y17 : String := PySem.W.SL.s5946037652744460706x9
noncomputable abbrev y18 : String := PySem.W.SL.s4278001404047624695x13
noncomputable abbrev y19 : String := PySem.W.SL.s4209523147560561109x18
noncomputable abbrev R (a : Addr) : Value := .ref a
noncomputable abbrev I (i : Int) : Value := .int i 0
noncomputable abbrev N : Value := .none
noncomputable abbrev V0 : Value := .bool false
noncomputable abbrev V1 : Value := .bool true
noncomputable abbrev U (v : Value) : Option Value := some v
noncomputable abbrev B := BT.node
noncomputable abbrev L := BT.nil
noncomputable abbrev E (P : Params) (x : Str) (t : Tok) (v : Value) : DictEntry := ⟨PyData.keyHash P x, .str x t, v⟩
noncomputable abbrev tu (l : List Value) : Obj := ⟨.type "tuple", none, .seq ⟨l⟩ 0, ⟨[]⟩⟩
noncomputable abbrev fi (l : List Value) : Obj := ⟨.none, none, .fields ⟨l⟩, ⟨[]⟩⟩
noncomputable abbrev cd (n : Str) (t : Nat) (l a f : Int) (r8 : Addr) (b : Bool) (r11 : Addr) (v13 v14 v15 : Value) (t3 : Int) (t4 : Nat) : Obj := ⟨.type y7, none, .fields ⟨[.str n t, .str n (t + 1), .str z11 (t + 2), I l, I a, I 0, I 0, I f, R r8, .bool b, I 181, R r11, N, v13, v14, v15, I t3, I l, .str z11 t4]⟩, ⟨[]⟩⟩
noncomputable def tp (p : Program) (i : Nat) : Stmt := p.main.body.getD i (.Pass ⟨0, 0, 0, 0⟩)
noncomputable abbrev F (n q : Str) (s : Stmt) (dV kV doc pm : Value) (an : Option Addr) (c ct : Value) : Data := .func (fnOf n q (defArgs s) (defBody s) (defScope s) dV kV doc pm an c ct)
noncomputable def b0 (_ : Program) (P : Params) : Obj := PySem.W.boot_o_0 P
noncomputable def b1 (_ : Program) (P : Params) : Obj := PySem.W.boot_o_1 P
noncomputable def b2 (_ : Program) (P : Params) : Obj := PySem.W.boot_o_2 P
noncomputable def b3 (_ : Program) (P : Params) : Obj := PySem.W.boot_o_3 P
noncomputable def b4 (_ : Program) (P : Params) : Obj := PySem.W.boot_o_4 P
noncomputable def b5 (_ : Program) (P : Params) : Obj := PySem.W.boot_o_5 P
noncomputable def b6 (_ : Program) (P : Params) : Obj := PySem.W.boot_o_6 P
noncomputable def b7 (_ : Program) (P : Params) : Obj := PySem.W.boot_o_7 P
noncomputable def b8 (_ : Program) (P : Params) : Obj := PySem.W.boot_o_8 P
noncomputable def b9 (_ : Program) (P : Params) : Obj := PySem.W.boot_o_9 P
noncomputable def b10 (_ : Program) (P : Params) : Obj := PySem.W.boot_o_10 P
noncomputable def a11 (p : Program) (P : Params) : Obj := tu []
noncomputable def a12 (p : Program) (P : Params) : Obj := fi []
noncomputable def a13 (p : Program) (P : Params) : Obj := cd z0 182 1 0 0 11 false 12 N N N 185 186
noncomputable def a14 (p : Program) (P : Params) : Obj := ⟨(.type y0),none,.plain,⟨[U (R 13),U (R 3),U (R 3),none,U (.str z1 164),none,U (R 0)]⟩⟩
noncomputable def o3 (p : Program) (P : Params) : Obj := ⟨(.type y1),none,(.dict ⟨[E P z2 165 (.str z3 521),E P z4 166 N,E P z5 167 N,E P z6 168 (.builtin y2),E P z7 169 N,E P z8 170 (R 6),E P z9 171 (R 4),E P z10 173 (.str z11 172),E P z12 174 N,E P z13 193 (R 21),E P z14 201 (R 26),E P z15 209 (R 33),E P z16 217 (R 40),E P z17 300 (R 97),E P z18 311 (R 108),E P z19 317 (R 113),E P z20 323 (R 118),E P z21 331 (R 125),E P z22 340 (R 132),E P z23 346 (R 138),E P z24 366 (R 148),E P z25 382 (R 161),E P z26 398 (R 173),E P z27 402 (.int 12 401),E P z28 409 (R 182),E P z29 415 (R 187),E P z30 419 (.int 999999 418),E P z31 421 (.int 60 420),E P z32 423 (.int 100 422),E P z33 432 (R 194),E P z34 442 (R 201),E P z35 451 (R 208),E P z36 462 (R 215),E P z37 520 (R 247),E P z38 530 (R 258),E P z39 537 (R 265),E P z40 554 (R 272),E P z41 568 (R 279),E P z42 585 (R 286),E P z43 591 (R 291),E P z44 605 (R 298),E P z45 620 (R 305),E P z46 633 (R 312),E P z47 646 (R 319),E P z48 660 (R 326),E P z49 669 (R 333),E P z50 679 (R 340),E P z51 692 (R 347),E P z52 700 (R 354),E P z53 710 (R 361),E P z54 716 (R 366)]⟩ 51),⟨[]⟩⟩
noncomputable def o12 (p : Program) (P : Params) : Obj := fi [(I 1),(I 0),(R 20),(I 5),(I 0),(R 25),(I 7),(I 0),(R 32),(I 9),(I 0),(R 39),(I 15),(I 0),(R 46),(I 50),(I 0),(R 107),(I 56),(I 0),(R 112),(I 63),(I 0),(R 117),(I 65),(I 0),(R 124),(I 67),(I 0),(R 131),(I 69),(I 0),(R 137),(I 78),(I 0),(R 144),(I 80),(I 0),(R 157),(I 82),(I 0),(R 169),(I 86),(I 0),(R 181),(I 88),(I 0),(R 186),(I 96),(I 0),(R 193),(I 98),(I 0),(R 200),(I 101),(I 0),(R 207),(I 108),(I 0),(R 214),(I 118),(I 0),(R 221),(I 145),(I 0),(R 257),(I 149),(I 0),(R 264),(I 151),(I 0),(R 271),(I 168),(I 0),(R 278),(I 175),(I 0),(R 285),(I 189),(I 0),(R 290),(I 197),(I 0),(R 297),(I 211),(I 0),(R 304),(I 220),(I 0),(R 311),(I 227),(I 0),(R 318),(I 239),(I 0),(R 325),(I 251),(I 0),(R 332),(I 258),(I 0),(R 339),(I 272),(I 0),(R 346),(I 285),(I 0),(R 353),(I 288),(I 0),(R 360),(I 294),(I 0),(R 365)]
noncomputable def o15 (p : Program) (P : Params) : Obj := tu []
noncomputable def o16 (p : Program) (P : Params) : Obj := fi []
noncomputable def o17 (p : Program) (P : Params) : Obj := tu [(.str z55 190)]
noncomputable def o18 (p : Program) (P : Params) : Obj := tu []
noncomputable def o19 (p : Program) (P : Params) : Obj := ⟨N,none,(.func ⟨z13,z13,defArgs (tp p 0),.stmts (defBody (tp p 0)),defScope (tp p 0),0,[],N,N,N,N,none,N,N,0⟩),⟨[]⟩⟩
noncomputable def o20 (p : Program) (P : Params) : Obj := cd z13 187 1 1 3 15 true 16 (R 17) (R 18) (R 19) 191 192
noncomputable def o21 (p : Program) (P : Params) : Obj := ⟨(.type y3),none,(F z13 z13 (tp p 0) N N N (.str z1 164) none (R 20) N),⟨[]⟩⟩
noncomputable def o22 (p : Program) (P : Params) : Obj := tu []
noncomputable def o23 (p : Program) (P : Params) : Obj := fi []
noncomputable def o24 (p : Program) (P : Params) : Obj := ⟨N,none,(.func ⟨z14,z14,defArgs (tp p 2),.stmts (defBody (tp p 2)),defScope (tp p 2),0,[],N,N,N,N,none,N,N,0⟩),⟨[]⟩⟩
noncomputable def o25 (p : Program) (P : Params) : Obj := cd z14 196 5 1 3 22 true 23 N N (R 24) 199 200
noncomputable def o26 (p : Program) (P : Params) : Obj := ⟨(.type y3),none,(F z14 z14 (tp p 2) N N N (.str z56 194) none (R 25) N),⟨[]⟩⟩
noncomputable def o27 (p : Program) (P : Params) : Obj := tu []
noncomputable def o28 (p : Program) (P : Params) : Obj := fi []
noncomputable def o29 (p : Program) (P : Params) : Obj := tu [(.str z57 205),(.str z58 206)]
noncomputable def o30 (p : Program) (P : Params) : Obj := tu []
noncomputable def o31 (p : Program) (P : Params) : Obj := ⟨N,none,(.func ⟨z15,z15,defArgs (tp p 3),.stmts (defBody (tp p 3)),defScope (tp p 3),0,[],N,N,N,N,none,N,N,0⟩),⟨[]⟩⟩
noncomputable def o32 (p : Program) (P : Params) : Obj := cd z15 202 7 2 3 27 true 28 (R 29) (R 30) (R 31) 207 208
noncomputable def o33 (p : Program) (P : Params) : Obj := ⟨(.type y3),none,(F z15 z15 (tp p 3) N N N (.str z56 194) none (R 32) N),⟨[]⟩⟩
noncomputable def o34 (p : Program) (P : Params) : Obj := tu []
noncomputable def o35 (p : Program) (P : Params) : Obj := fi []
noncomputable def o36 (p : Program) (P : Params) : Obj := tu [(.str z59 213),(.str z60 214)]
noncomputable def o37 (p : Program) (P : Params) : Obj := tu []
noncomputable def o38 (p : Program) (P : Params) : Obj := ⟨N,none,(.func ⟨z16,z16,defArgs (tp p 4),.stmts (defBody (tp p 4)),defScope (tp p 4),0,[],N,N,N,N,none,N,N,0⟩),⟨[]⟩⟩
noncomputable def o39 (p : Program) (P : Params) : Obj := cd z16 210 9 2 3 34 true 35 (R 36) (R 37) (R 38) 215 216
noncomputable def o40 (p : Program) (P : Params) : Obj := ⟨(.type y3),none,(F z16 z16 (tp p 4) N N N (.str z56 194) none (R 39) N),⟨[]⟩⟩
noncomputable def o41 (p : Program) (P : Params) : Obj := tu []
noncomputable def o42 (p : Program) (P : Params) : Obj := ⟨(.type y4),none,(.fields ⟨[(.builtin y5),(.type y6)]⟩),⟨[]⟩⟩
noncomputable def o43 (p : Program) (P : Params) : Obj := ⟨(.type y1),none,(.dict ⟨[E P z61 225 (.str z56 194),E P z62 227 (.str z17 226),E P z63 229 (.int 15 228),E P z64 235 (R 52),E P z65 247 (R 59),E P z66 255 (R 66),E P z67 263 (R 73),E P z68 272 (R 80),E P z69 280 (R 87),E P z70 288 (R 94),E P z71 293 (R 95)]⟩ 11),⟨[]⟩⟩
noncomputable def o44 (p : Program) (P : Params) : Obj := tu []
noncomputable def o45 (p : Program) (P : Params) : Obj := fi [(I 17),(I 4),(R 51),(I 29),(I 4),(R 58),(I 35),(I 4),(R 65),(I 38),(I 4),(R 72),(I 41),(I 4),(R 79),(I 44),(I 4),(R 86),(I 47),(I 4),(R 93)]
noncomputable def o46 (p : Program) (P : Params) : Obj := cd z17 220 15 0 0 44 false 45 N N N 223 224
noncomputable def o47 (p : Program) (P : Params) : Obj := ⟨(.type y0),none,.plain,⟨[U (R 46),U (R 3),U (R 43),none,U (.str z56 194),none,U (R 0)]⟩⟩
noncomputable def o48 (p : Program) (P : Params) : Obj := tu []
noncomputable def o49 (p : Program) (P : Params) : Obj := fi []
noncomputable def o50 (p : Program) (P : Params) : Obj := ⟨N,none,(.func ⟨z64,z72,defArgs (inClass (tp p 5) 0),.stmts (defBody (inClass (tp p 5) 0)),defScope (inClass (tp p 5) 0),0,[],N,N,N,N,none,N,N,0⟩),⟨[]⟩⟩
noncomputable def o51 (p : Program) (P : Params) : Obj := ⟨(.type y7),none,(.fields ⟨[(.str z64 230),(.str z72 231),(.str z11 232),(I 17),(I 3),(I 0),(I 0),(I 3),(R 48),V1,(I 181),(R 49),N,N,N,(R 50),(I 233),(I 17),(.str z11 234)]⟩),⟨[]⟩⟩
noncomputable def o52 (p : Program) (P : Params) : Obj := ⟨(.type y3),none,(F z64 z72 (inClass (tp p 5) 0) N N N (.str z56 194) none (R 51) N),⟨[]⟩⟩
noncomputable def o53 (p : Program) (P : Params) : Obj := tu []
noncomputable def o54 (p : Program) (P : Params) : Obj := fi []
noncomputable def o55 (p : Program) (P : Params) : Obj := tu [(.str z73 239),(.str z74 240),(.str z75 241),(.str z76 242),(.str z77 243),(.str z59 244)]
noncomputable def o56 (p : Program) (P : Params) : Obj := tu []
noncomputable def o57 (p : Program) (P : Params) : Obj := ⟨N,none,(.func ⟨z65,z78,defArgs (inClass (tp p 5) 1),.stmts (defBody (inClass (tp p 5) 1)),defScope (inClass (tp p 5) 1),0,[],N,N,N,N,none,N,N,0⟩),⟨[]⟩⟩
noncomputable def o58 (p : Program) (P : Params) : Obj := ⟨(.type y7),none,(.fields ⟨[(.str z65 236),(.str z78 237),(.str z11 238),(I 29),(I 3),(I 0),(I 0),(I 3),(R 53),V1,(I 181),(R 54),N,(R 55),(R 56),(R 57),(I 245),(I 29),(.str z11 246)]⟩),⟨[]⟩⟩
noncomputable def o59 (p : Program) (P : Params) : Obj := ⟨(.type y3),none,(F z65 z78 (inClass (tp p 5) 1) N N N (.str z56 194) none (R 58) N),⟨[]⟩⟩
noncomputable def o60 (p : Program) (P : Params) : Obj := tu []
noncomputable def o61 (p : Program) (P : Params) : Obj := fi []
noncomputable def o62 (p : Program) (P : Params) : Obj := tu [(.str z73 251),(.str z79 252)]
noncomputable def o63 (p : Program) (P : Params) : Obj := tu []
noncomputable def o64 (p : Program) (P : Params) : Obj := ⟨N,none,(.func ⟨z66,z80,defArgs (inClass (tp p 5) 2),.stmts (defBody (inClass (tp p 5) 2)),defScope (inClass (tp p 5) 2),0,[],N,N,N,N,none,N,N,0⟩),⟨[]⟩⟩
noncomputable def o65 (p : Program) (P : Params) : Obj := ⟨(.type y7),none,(.fields ⟨[(.str z66 248),(.str z80 249),(.str z11 250),(I 35),(I 2),(I 0),(I 0),(I 3),(R 60),V1,(I 181),(R 61),N,(R 62),(R 63),(R 64),(I 253),(I 35),(.str z11 254)]⟩),⟨[]⟩⟩
noncomputable def o66 (p : Program) (P : Params) : Obj := ⟨(.type y3),none,(F z66 z80 (inClass (tp p 5) 2) N N N (.str z56 194) none (R 65) N),⟨[]⟩⟩
noncomputable def o67 (p : Program) (P : Params) : Obj := tu []
noncomputable def o68 (p : Program) (P : Params) : Obj := fi []
noncomputable def o69 (p : Program) (P : Params) : Obj := tu [(.str z73 259),(.str z81 260)]
noncomputable def o70 (p : Program) (P : Params) : Obj := tu []
noncomputable def o71 (p : Program) (P : Params) : Obj := ⟨N,none,(.func ⟨z67,z82,defArgs (inClass (tp p 5) 3),.stmts (defBody (inClass (tp p 5) 3)),defScope (inClass (tp p 5) 3),0,[],N,N,N,N,none,N,N,0⟩),⟨[]⟩⟩
noncomputable def o72 (p : Program) (P : Params) : Obj := ⟨(.type y7),none,(.fields ⟨[(.str z67 256),(.str z82 257),(.str z11 258),(I 38),(I 2),(I 0),(I 0),(I 3),(R 67),V1,(I 181),(R 68),N,(R 69),(R 70),(R 71),(I 261),(I 38),(.str z11 262)]⟩),⟨[]⟩⟩
noncomputable def o73 (p : Program) (P : Params) : Obj := ⟨(.type y3),none,(F z67 z82 (inClass (tp p 5) 3) N N N (.str z56 194) none (R 72) N),⟨[]⟩⟩
noncomputable def o74 (p : Program) (P : Params) : Obj := tu []
noncomputable def o75 (p : Program) (P : Params) : Obj := fi []
noncomputable def o76 (p : Program) (P : Params) : Obj := tu [(.str z73 267),(.str z81 268),(.str z79 269)]
noncomputable def o77 (p : Program) (P : Params) : Obj := tu []
noncomputable def o78 (p : Program) (P : Params) : Obj := ⟨N,none,(.func ⟨z68,z83,defArgs (inClass (tp p 5) 4),.stmts (defBody (inClass (tp p 5) 4)),defScope (inClass (tp p 5) 4),0,[],N,N,N,N,none,N,N,0⟩),⟨[]⟩⟩
noncomputable def o79 (p : Program) (P : Params) : Obj := ⟨(.type y7),none,(.fields ⟨[(.str z68 264),(.str z83 265),(.str z11 266),(I 41),(I 3),(I 0),(I 0),(I 3),(R 74),V1,(I 181),(R 75),N,(R 76),(R 77),(R 78),(I 270),(I 41),(.str z11 271)]⟩),⟨[]⟩⟩
noncomputable def o80 (p : Program) (P : Params) : Obj := ⟨(.type y3),none,(F z68 z83 (inClass (tp p 5) 4) N N N (.str z56 194) none (R 79) N),⟨[]⟩⟩
noncomputable def o81 (p : Program) (P : Params) : Obj := tu []
noncomputable def o82 (p : Program) (P : Params) : Obj := fi []
noncomputable def o83 (p : Program) (P : Params) : Obj := tu [(.str z73 276),(.str z79 277)]
noncomputable def o84 (p : Program) (P : Params) : Obj := tu []
noncomputable def o85 (p : Program) (P : Params) : Obj := ⟨N,none,(.func ⟨z69,z84,defArgs (inClass (tp p 5) 5),.stmts (defBody (inClass (tp p 5) 5)),defScope (inClass (tp p 5) 5),0,[],N,N,N,N,none,N,N,0⟩),⟨[]⟩⟩
noncomputable def o86 (p : Program) (P : Params) : Obj := ⟨(.type y7),none,(.fields ⟨[(.str z69 273),(.str z84 274),(.str z11 275),(I 44),(I 2),(I 0),(I 0),(I 3),(R 81),V1,(I 181),(R 82),N,(R 83),(R 84),(R 85),(I 278),(I 44),(.str z11 279)]⟩),⟨[]⟩⟩
noncomputable def o87 (p : Program) (P : Params) : Obj := ⟨(.type y3),none,(F z69 z84 (inClass (tp p 5) 5) N N N (.str z56 194) none (R 86) N),⟨[]⟩⟩
noncomputable def o88 (p : Program) (P : Params) : Obj := tu []
noncomputable def o89 (p : Program) (P : Params) : Obj := fi []
noncomputable def o90 (p : Program) (P : Params) : Obj := tu [(.str z73 284),(.str z79 285)]
noncomputable def o91 (p : Program) (P : Params) : Obj := tu []
noncomputable def o92 (p : Program) (P : Params) : Obj := ⟨N,none,(.func ⟨z70,z85,defArgs (inClass (tp p 5) 6),.stmts (defBody (inClass (tp p 5) 6)),defScope (inClass (tp p 5) 6),0,[],N,N,N,N,none,N,N,0⟩),⟨[]⟩⟩
noncomputable def o93 (p : Program) (P : Params) : Obj := ⟨(.type y7),none,(.fields ⟨[(.str z70 281),(.str z85 282),(.str z11 283),(I 47),(I 2),(I 0),(I 0),(I 3),(R 88),V1,(I 181),(R 89),N,(R 90),(R 91),(R 92),(I 286),(I 47),(.str z11 287)]⟩),⟨[]⟩⟩
noncomputable def o94 (p : Program) (P : Params) : Obj := ⟨(.type y3),none,(F z70 z85 (inClass (tp p 5) 6) N N N (.str z56 194) none (R 93) N),⟨[]⟩⟩
noncomputable def o95 (p : Program) (P : Params) : Obj := tu [(.str z60 289),(.str z86 290),(.str z87 291),(.str z88 292)]
noncomputable def o96 (p : Program) (P : Params) : Obj := ⟨(.type y1),none,(.dict ⟨[E P z61 225 (.str z56 194),E P z63 229 (.int 15 228),E P z64 235 (R 52),E P z65 247 (R 59),E P z66 255 (R 66),E P z67 263 (R 73),E P z68 272 (R 80),E P z69 280 (R 87),E P z70 288 (R 94),E P z71 293 (R 95),E P z89 295 (R 98),E P z90 297 (R 99),E P z4 298 N]⟩ 4),⟨[]⟩⟩
noncomputable def o97 (p : Program) (P : Params) : Obj := ⟨(.type y6),none,(.cls ⟨z17,[(.type y8)],[(R 97),(.type y8)],96,z17,true,[],[],false,none,false⟩),⟨[none,none,U (.str z17 218),U (.str z17 226),U (.builtin y9),U V1]⟩⟩
noncomputable def o98 (p : Program) (P : Params) : Obj := ⟨(.type y10),none,(.fields ⟨[(.str z89 294),(R 97),(.builtin y11),(.builtin y12)]⟩),⟨[]⟩⟩
noncomputable def o99 (p : Program) (P : Params) : Obj := ⟨(.type y10),none,(.fields ⟨[(.str z90 296),(R 97),(.builtin y13),N]⟩),⟨[]⟩⟩
noncomputable def o100 (p : Program) (P : Params) : Obj := ⟨(.type y14),none,(.fields ⟨[(R 97),(R 97),(R 97)]⟩),⟨[]⟩⟩
noncomputable def o101 (p : Program) (P : Params) : Obj := ⟨(.type y4),none,(.fields ⟨[(.builtin y15),(R 97)]⟩),⟨[]⟩⟩
noncomputable def o102 (p : Program) (P : Params) : Obj := tu []
noncomputable def o103 (p : Program) (P : Params) : Obj := fi []
noncomputable def o104 (p : Program) (P : Params) : Obj := tu [(.str z91 306),(.str z92 307),(.str z79 308)]
noncomputable def o105 (p : Program) (P : Params) : Obj := tu []
noncomputable def o106 (p : Program) (P : Params) : Obj := ⟨N,none,(.func ⟨z18,z18,defArgs (tp p 7),.stmts (defBody (tp p 7)),defScope (tp p 7),0,[],N,N,N,N,none,N,N,0⟩),⟨[]⟩⟩
noncomputable def o107 (p : Program) (P : Params) : Obj := cd z18 303 50 1 3 102 true 103 (R 104) (R 105) (R 106) 309 310
noncomputable def o108 (p : Program) (P : Params) : Obj := ⟨(.type y3),none,(F z18 z18 (tp p 7) N N N (.str z93 301) none (R 107) N),⟨[]⟩⟩
noncomputable def o109 (p : Program) (P : Params) : Obj := tu []
noncomputable def o110 (p : Program) (P : Params) : Obj := fi []
noncomputable def o111 (p : Program) (P : Params) : Obj := ⟨N,none,(.func ⟨z19,z19,defArgs (tp p 8),.stmts (defBody (tp p 8)),defScope (tp p 8),0,[],N,N,N,N,none,N,N,0⟩),⟨[]⟩⟩
noncomputable def o112 (p : Program) (P : Params) : Obj := cd z19 312 56 4 3 109 true 110 N N (R 111) 315 316
noncomputable def o113 (p : Program) (P : Params) : Obj := ⟨(.type y3),none,(F z19 z19 (tp p 8) N N N (.str z93 301) none (R 112) N),⟨[]⟩⟩
noncomputable def o114 (p : Program) (P : Params) : Obj := tu []
noncomputable def o115 (p : Program) (P : Params) : Obj := fi []
noncomputable def o116 (p : Program) (P : Params) : Obj := ⟨N,none,(.func ⟨z20,z20,defArgs (tp p 9),.stmts (defBody (tp p 9)),defScope (tp p 9),0,[],N,N,N,N,none,N,N,0⟩),⟨[]⟩⟩
noncomputable def o117 (p : Program) (P : Params) : Obj := cd z20 318 63 1 3 114 true 115 N N (R 116) 321 322
noncomputable def o118 (p : Program) (P : Params) : Obj := ⟨(.type y3),none,(F z20 z20 (tp p 9) N N N (.str z93 301) none (R 117) N),⟨[]⟩⟩
noncomputable def o119 (p : Program) (P : Params) : Obj := tu []
noncomputable def o120 (p : Program) (P : Params) : Obj := fi []
noncomputable def o121 (p : Program) (P : Params) : Obj := tu [(.str z94 327),(.str z95 328)]
noncomputable def o122 (p : Program) (P : Params) : Obj := tu []
noncomputable def o123 (p : Program) (P : Params) : Obj := ⟨N,none,(.func ⟨z21,z21,defArgs (tp p 10),.stmts (defBody (tp p 10)),defScope (tp p 10),0,[],N,N,N,N,none,N,N,0⟩),⟨[]⟩⟩
noncomputable def o124 (p : Program) (P : Params) : Obj := cd z21 324 65 2 3 119 true 120 (R 121) (R 122) (R 123) 329 330
noncomputable def o125 (p : Program) (P : Params) : Obj := ⟨(.type y3),none,(F z21 z21 (tp p 10) N N N (.str z93 301) none (R 124) N),⟨[]⟩⟩
noncomputable def o126 (p : Program) (P : Params) : Obj := tu []
noncomputable def o127 (p : Program) (P : Params) : Obj := fi []
noncomputable def o128 (p : Program) (P : Params) : Obj := tu [(.str z59 335),(.str z86 336),(.str z96 337)]
noncomputable def o129 (p : Program) (P : Params) : Obj := tu []
noncomputable def o130 (p : Program) (P : Params) : Obj := ⟨N,none,(.func ⟨z22,z22,defArgs (tp p 11),.stmts (defBody (tp p 11)),defScope (tp p 11),0,[],N,N,N,N,none,N,N,0⟩),⟨[]⟩⟩
noncomputable def o131 (p : Program) (P : Params) : Obj := cd z22 332 67 3 3 126 true 127 (R 128) (R 129) (R 130) 338 339
noncomputable def o132 (p : Program) (P : Params) : Obj := ⟨(.type y3),none,(F z22 z22 (tp p 11) N N N (.str z93 301) none (R 131) N),⟨[]⟩⟩
noncomputable def o133 (p : Program) (P : Params) : Obj := tu [N]
noncomputable def o134 (p : Program) (P : Params) : Obj := tu []
noncomputable def o135 (p : Program) (P : Params) : Obj := fi []
noncomputable def o136 (p : Program) (P : Params) : Obj := ⟨N,none,(.func ⟨z23,z23,defArgs (tp p 12),.stmts (defBody (tp p 12)),defScope (tp p 12),0,[],N,N,N,N,none,N,N,0⟩),⟨[]⟩⟩
noncomputable def o137 (p : Program) (P : Params) : Obj := cd z23 341 69 4 3 134 true 135 N N (R 136) 344 345
noncomputable def o138 (p : Program) (P : Params) : Obj := ⟨(.type y3),none,(F z23 z23 (tp p 12) (R 133) N N (.str z93 301) none (R 137) N),⟨[]⟩⟩
noncomputable def o139 (p : Program) (P : Params) : Obj := tu [(.type y16)]
noncomputable def o140 (p : Program) (P : Params) : Obj := ⟨(.type y4),none,(.fields ⟨[(.builtin y5),(.type y6)]⟩),⟨[]⟩⟩
noncomputable def o141 (p : Program) (P : Params) : Obj := ⟨(.type y1),none,(.dict ⟨[E P z61 356 (.str z97 347),E P z62 358 (.str z24 357),E P z63 360 (.int 78 359),E P z71 361 (R 146)]⟩ 4),⟨[]⟩⟩
noncomputable def o142 (p : Program) (P : Params) : Obj := tu []
noncomputable def o143 (p : Program) (P : Params) : Obj := fi []
noncomputable def o144 (p : Program) (P : Params) : Obj := cd z24 351 78 0 0 142 false 143 N N N 354 355
noncomputable def o145 (p : Program) (P : Params) : Obj := ⟨(.type y0),none,.plain,⟨[U (R 144),U (R 3),U (R 141),none,U (.str z97 347),none,U (R 0)]⟩⟩
noncomputable def o146 (p : Program) (P : Params) : Obj := tu []
noncomputable def o147 (p : Program) (P : Params) : Obj := ⟨(.type y1),none,(.dict ⟨[E P z61 356 (.str z97 347),E P z63 360 (.int 78 359),E P z71 361 (R 146),E P z90 363 (R 149),E P z4 364 N]⟩ 3),⟨[]⟩⟩
noncomputable def o148 (p : Program) (P : Params) : Obj := ⟨(.type y6),none,(.cls ⟨z24,[(.type y16)],[(R 148),(.type y16),(.type y17),(.type y18),(.type y8)],147,z24,true,[],[(R 161),(R 173)],false,none,false⟩),⟨[U (R 139),none,U (.str z24 349),U (.str z24 357),U (.builtin y19),U V1]⟩⟩
noncomputable def o149 (p : Program) (P : Params) : Obj := ⟨(.type y10),none,(.fields ⟨[(.str z90 362),(R 148),(.builtin y13),N]⟩),⟨[]⟩⟩
noncomputable def o150 (p : Program) (P : Params) : Obj := ⟨(.type y14),none,(.fields ⟨[(R 148),(R 148),(R 148)]⟩),⟨[]⟩⟩
noncomputable def o151 (p : Program) (P : Params) : Obj := ⟨(.type y4),none,(.fields ⟨[(.builtin y15),(R 148)]⟩),⟨[]⟩⟩
noncomputable def o152 (p : Program) (P : Params) : Obj := tu [(R 148)]
noncomputable def o153 (p : Program) (P : Params) : Obj := ⟨(.type y4),none,(.fields ⟨[(.builtin y5),(.type y6)]⟩),⟨[]⟩⟩
noncomputable def o154 (p : Program) (P : Params) : Obj := ⟨(.type y1),none,(.dict ⟨[E P z61 374 (.str z97 347),E P z62 376 (.str z25 375),E P z63 378 (.int 80 377),E P z71 379 (R 159)]⟩ 4),⟨[]⟩⟩
noncomputable def o155 (p : Program) (P : Params) : Obj := tu []
noncomputable def o156 (p : Program) (P : Params) : Obj := fi []
noncomputable def o157 (p : Program) (P : Params) : Obj := cd z25 369 80 0 0 155 false 156 N N N 372 373
noncomputable def o158 (p : Program) (P : Params) : Obj := ⟨(.type y0),none,.plain,⟨[U (R 157),U (R 3),U (R 154),none,U (.str z97 347),none,U (R 0)]⟩⟩
noncomputable def o159 (p : Program) (P : Params) : Obj := tu []
noncomputable def o160 (p : Program) (P : Params) : Obj := ⟨(.type y1),none,(.dict ⟨[E P z61 374 (.str z97 347),E P z63 378 (.int 80 377),E P z71 379 (R 159),E P z4 380 N]⟩ 2),⟨[]⟩⟩
noncomputable def o161 (p : Program) (P : Params) : Obj := ⟨(.type y6),none,(.cls ⟨z25,[(R 148)],[(R 161),(R 148),(.type y16),(.type y17),(.type y18),(.type y8)],160,z25,true,[],[],false,none,false⟩),⟨[U (R 152),none,U (.str z25 367),U (.str z25 375),U (.builtin y19),U V1]⟩⟩
noncomputable def o162 (p : Program) (P : Params) : Obj := ⟨(.type y14),none,(.fields ⟨[(R 161),(R 161),(R 161)]⟩),⟨[]⟩⟩
noncomputable def o163 (p : Program) (P : Params) : Obj := ⟨(.type y4),none,(.fields ⟨[(.builtin y15),(R 161)]⟩),⟨[]⟩⟩
noncomputable def o164 (p : Program) (P : Params) : Obj := tu [(R 148)]
noncomputable def o165 (p : Program) (P : Params) : Obj := ⟨(.type y4),none,(.fields ⟨[(.builtin y5),(.type y6)]⟩),⟨[]⟩⟩
noncomputable def o166 (p : Program) (P : Params) : Obj := ⟨(.type y1),none,(.dict ⟨[E P z61 390 (.str z97 347),E P z62 392 (.str z26 391),E P z63 394 (.int 82 393),E P z71 395 (R 171)]⟩ 4),⟨[]⟩⟩
noncomputable def o167 (p : Program) (P : Params) : Obj := tu []
noncomputable def o168 (p : Program) (P : Params) : Obj := fi []
noncomputable def o169 (p : Program) (P : Params) : Obj := cd z26 385 82 0 0 167 false 168 N N N 388 389
noncomputable def o170 (p : Program) (P : Params) : Obj := ⟨(.type y0),none,.plain,⟨[U (R 169),U (R 3),U (R 166),none,U (.str z97 347),none,U (R 0)]⟩⟩
noncomputable def o171 (p : Program) (P : Params) : Obj := tu []
noncomputable def o172 (p : Program) (P : Params) : Obj := ⟨(.type y1),none,(.dict ⟨[E P z61 390 (.str z97 347),E P z63 394 (.int 82 393),E P z71 395 (R 171),E P z4 396 N]⟩ 2),⟨[]⟩⟩
noncomputable def o173 (p : Program) (P : Params) : Obj := ⟨(.type y6),none,(.cls ⟨z26,[(R 148)],[(R 173),(R 148),(.type y16),(.type y17),(.type y18),(.type y8)],172,z26,true,[],[],false,none,false⟩),⟨[U (R 164),none,U (.str z26 383),U (.str z26 391),U (.builtin y19),U V1]⟩⟩
noncomputable def o174 (p : Program) (P : Params) : Obj := ⟨(.type y14),none,(.fields ⟨[(R 173),(R 173),(R 173)]⟩),⟨[]⟩⟩
noncomputable def o175 (p : Program) (P : Params) : Obj := ⟨(.type y4),none,(.fields ⟨[(.builtin y15),(R 173)]⟩),⟨[]⟩⟩
noncomputable def o176 (p : Program) (P : Params) : Obj := tu []
noncomputable def o177 (p : Program) (P : Params) : Obj := fi []
noncomputable def o178 (p : Program) (P : Params) : Obj := tu [(.str z98 406)]
noncomputable def o179 (p : Program) (P : Params) : Obj := tu []
noncomputable def o180 (p : Program) (P : Params) : Obj := ⟨N,none,(.func ⟨z28,z28,defArgs (tp p 19),.stmts (defBody (tp p 19)),defScope (tp p 19),0,[],N,N,N,N,none,N,N,0⟩),⟨[]⟩⟩
noncomputable def o181 (p : Program) (P : Params) : Obj := cd z28 403 86 1 3 176 true 177 (R 178) (R 179) (R 180) 407 408
noncomputable def o182 (p : Program) (P : Params) : Obj := ⟨(.type y3),none,(F z28 z28 (tp p 19) N N N (.str z99 399) none (R 181) N),⟨[]⟩⟩
noncomputable def o183 (p : Program) (P : Params) : Obj := tu []
noncomputable def o184 (p : Program) (P : Params) : Obj := fi []
noncomputable def o185 (p : Program) (P : Params) : Obj := ⟨N,none,(.func ⟨z29,z29,defArgs (tp p 20),.stmts (defBody (tp p 20)),defScope (tp p 20),0,[],N,N,N,N,none,N,N,0⟩),⟨[]⟩⟩
noncomputable def o186 (p : Program) (P : Params) : Obj := cd z29 410 88 1 3 183 true 184 N N (R 185) 413 414
noncomputable def o187 (p : Program) (P : Params) : Obj := ⟨(.type y3),none,(F z29 z29 (tp p 20) N N N (.str z99 399) none (R 186) N),⟨[]⟩⟩
noncomputable def o188 (p : Program) (P : Params) : Obj := tu []
noncomputable def o189 (p : Program) (P : Params) : Obj := fi []
noncomputable def o190 (p : Program) (P : Params) : Obj := tu [(.str z100 427),(.str z57 428),(.str z101 429)]
noncomputable def o191 (p : Program) (P : Params) : Obj := tu []
noncomputable def o192 (p : Program) (P : Params) : Obj := ⟨N,none,(.func ⟨z33,z33,defArgs (tp p 25),.stmts (defBody (tp p 25)),defScope (tp p 25),0,[],N,N,N,N,none,N,N,0⟩),⟨[]⟩⟩
noncomputable def o193 (p : Program) (P : Params) : Obj := cd z33 424 96 3 3 188 true 189 (R 190) (R 191) (R 192) 430 431
noncomputable def o194 (p : Program) (P : Params) : Obj := ⟨(.type y3),none,(F z33 z33 (tp p 25) N N N (.str z102 416) none (R 193) N),⟨[]⟩⟩
noncomputable def o195 (p : Program) (P : Params) : Obj := tu []
noncomputable def o196 (p : Program) (P : Params) : Obj := fi []
noncomputable def o197 (p : Program) (P : Params) : Obj := tu [(.str z103 436),(.str z57 437),(.str z100 438),(.str z101 439)]
noncomputable def o198 (p : Program) (P : Params) : Obj := tu []
noncomputable def o199 (p : Program) (P : Params) : Obj := ⟨N,none,(.func ⟨z34,z34,defArgs (tp p 26),.stmts (defBody (tp p 26)),defScope (tp p 26),0,[],N,N,N,N,none,N,N,0⟩),⟨[]⟩⟩
noncomputable def o200 (p : Program) (P : Params) : Obj := cd z34 433 98 4 3 195 true 196 (R 197) (R 198) (R 199) 440 441
noncomputable def o201 (p : Program) (P : Params) : Obj := ⟨(.type y3),none,(F z34 z34 (tp p 26) N N N (.str z102 416) none (R 200) N),⟨[]⟩⟩
noncomputable def o202 (p : Program) (P : Params) : Obj := tu []
noncomputable def o203 (p : Program) (P : Params) : Obj := fi []
noncomputable def o204 (p : Program) (P : Params) : Obj := tu [(.str z104 446),(.str z105 447),(.str z58 448)]
noncomputable def o205 (p : Program) (P : Params) : Obj := tu []
noncomputable def o206 (p : Program) (P : Params) : Obj := ⟨N,none,(.func ⟨z35,z35,defArgs (tp p 27),.stmts (defBody (tp p 27)),defScope (tp p 27),0,[],N,N,N,N,none,N,N,0⟩),⟨[]⟩⟩
noncomputable def o207 (p : Program) (P : Params) : Obj := cd z35 443 101 3 3 202 true 203 (R 204) (R 205) (R 206) 449 450
noncomputable def o208 (p : Program) (P : Params) : Obj := ⟨(.type y3),none,(F z35 z35 (tp p 27) N N N (.str z102 416) none (R 207) N),⟨[]⟩⟩
noncomputable def o209 (p : Program) (P : Params) : Obj := tu []
noncomputable def o210 (p : Program) (P : Params) : Obj := fi []
noncomputable def o211 (p : Program) (P : Params) : Obj := tu [(.str z106 455),(.str z107 456),(.str z104 457),(.str z105 458),(.str z58 459)]
noncomputable def o212 (p : Program) (P : Params) : Obj := tu []
noncomputable def o213 (p : Program) (P : Params) : Obj := ⟨N,none,(.func ⟨z36,z36,defArgs (tp p 28),.stmts (defBody (tp p 28)),defScope (tp p 28),0,[],N,N,N,N,none,N,N,0⟩),⟨[]⟩⟩
noncomputable def o214 (p : Program) (P : Params) : Obj := cd z36 452 108 1 3 209 true 210 (R 211) (R 212) (R 213) 460 461
noncomputable def o215 (p : Program) (P : Params) : Obj := ⟨(.type y3),none,(F z36 z36 (tp p 28) N N N (.str z102 416) none (R 214) N),⟨[]⟩⟩
noncomputable def o216 (p : Program) (P : Params) : Obj := tu []
noncomputable def o217 (p : Program) (P : Params) : Obj := ⟨(.type y4),none,(.fields ⟨[(.builtin y5),(.type y6)]⟩),⟨[]⟩⟩
noncomputable def o218 (p : Program) (P : Params) : Obj := ⟨(.type y1),none,(.dict ⟨[E P z61 470 (.str z102 416),E P z62 472 (.str z37 471),E P z63 474 (.int 118 473),E P z64 488 (R 230),E P z108 498 (R 237),E P z109 505 (R 244),E P z71 513 (R 245)]⟩ 7),⟨[]⟩⟩
noncomputable def o219 (p : Program) (P : Params) : Obj := tu []
noncomputable def o220 (p : Program) (P : Params) : Obj := fi [(I 120),(I 4),(R 229),(I 134),(I 4),(R 236),(I 142),(I 4),(R 243)]
noncomputable def o221 (p : Program) (P : Params) : Obj := cd z37 465 118 0 0 219 false 220 N N N 468 469
noncomputable def o222 (p : Program) (P : Params) : Obj := ⟨(.type y0),none,.plain,⟨[U (R 221),U (R 3),U (R 218),none,U (.str z102 416),none,U (R 0)]⟩⟩
noncomputable def o223 (p : Program) (P : Params) : Obj := tu [(.int 50 475),N]
noncomputable def o224 (p : Program) (P : Params) : Obj := tu []
noncomputable def o225 (p : Program) (P : Params) : Obj := fi []
noncomputable def o226 (p : Program) (P : Params) : Obj := tu [(.str z73 479),(.str z110 480),(.str z88 481),(.str z87 482),(.str z111 483),(.str z112 484),(.str z106 485)]
noncomputable def o227 (p : Program) (P : Params) : Obj := tu []
noncomputable def o228 (p : Program) (P : Params) : Obj := ⟨N,none,(.func ⟨z64,z113,defArgs (inClass (tp p 29) 0),.stmts (defBody (inClass (tp p 29) 0)),defScope (inClass (tp p 29) 0),0,[],N,N,N,N,none,N,N,0⟩),⟨[]⟩⟩
noncomputable def o229 (p : Program) (P : Params) : Obj := ⟨(.type y7),none,(.fields ⟨[(.str z64 476),(.str z113 477),(.str z11 478),(I 120),(I 7),(I 0),(I 0),(I 3),(R 224),V1,(I 181),(R 225),N,(R 226),(R 227),(R 228),(I 486),(I 120),(.str z11 487)]⟩),⟨[]⟩⟩
noncomputable def o230 (p : Program) (P : Params) : Obj := ⟨(.type y3),none,(F z64 z113 (inClass (tp p 29) 0) (R 223) N N (.str z102 416) none (R 229) N),⟨[]⟩⟩
noncomputable def o231 (p : Program) (P : Params) : Obj := tu []
noncomputable def o232 (p : Program) (P : Params) : Obj := fi []
noncomputable def o233 (p : Program) (P : Params) : Obj := tu [(.str z73 492),(.str z104 493),(.str z105 494),(.str z58 495)]
noncomputable def o234 (p : Program) (P : Params) : Obj := tu []
noncomputable def o235 (p : Program) (P : Params) : Obj := ⟨N,none,(.func ⟨z108,z114,defArgs (inClass (tp p 29) 1),.stmts (defBody (inClass (tp p 29) 1)),defScope (inClass (tp p 29) 1),0,[],N,N,N,N,none,N,N,0⟩),⟨[]⟩⟩
noncomputable def o236 (p : Program) (P : Params) : Obj := ⟨(.type y7),none,(.fields ⟨[(.str z108 489),(.str z114 490),(.str z11 491),(I 134),(I 3),(I 0),(I 0),(I 3),(R 231),V1,(I 181),(R 232),N,(R 233),(R 234),(R 235),(I 496),(I 134),(.str z11 497)]⟩),⟨[]⟩⟩
noncomputable def o237 (p : Program) (P : Params) : Obj := ⟨(.type y3),none,(F z108 z114 (inClass (tp p 29) 1) N N N (.str z102 416) none (R 236) N),⟨[]⟩⟩
noncomputable def o238 (p : Program) (P : Params) : Obj := tu []
noncomputable def o239 (p : Program) (P : Params) : Obj := fi []
noncomputable def o240 (p : Program) (P : Params) : Obj := tu [(.str z73 502)]
noncomputable def o241 (p : Program) (P : Params) : Obj := tu []
noncomputable def o242 (p : Program) (P : Params) : Obj := ⟨N,none,(.func ⟨z109,z115,defArgs (inClass (tp p 29) 2),.stmts (defBody (inClass (tp p 29) 2)),defScope (inClass (tp p 29) 2),0,[],N,N,N,N,none,N,N,0⟩),⟨[]⟩⟩
noncomputable def o243 (p : Program) (P : Params) : Obj := ⟨(.type y7),none,(.fields ⟨[(.str z109 499),(.str z115 500),(.str z11 501),(I 142),(I 1),(I 0),(I 0),(I 3),(R 238),V1,(I 181),(R 239),N,(R 240),(R 241),(R 242),(I 503),(I 142),(.str z11 504)]⟩),⟨[]⟩⟩
noncomputable def o244 (p : Program) (P : Params) : Obj := ⟨(.type y3),none,(F z109 z115 (inClass (tp p 29) 2) N N N (.str z102 416) none (R 243) N),⟨[]⟩⟩
noncomputable def o245 (p : Program) (P : Params) : Obj := tu [(.str z87 506),(.str z111 507),(.str z106 508),(.str z88 509),(.str z112 510),(.str z107 511),(.str z110 512)]
noncomputable def o246 (p : Program) (P : Params) : Obj := ⟨(.type y1),none,(.dict ⟨[E P z61 470 (.str z102 416),E P z63 474 (.int 118 473),E P z64 488 (R 230),E P z108 498 (R 237),E P z109 505 (R 244),E P z71 513 (R 245),E P z89 515 (R 248),E P z90 517 (R 249),E P z4 518 N]⟩ 4),⟨[]⟩⟩
noncomputable def o247 (p : Program) (P : Params) : Obj := ⟨(.type y6),none,(.cls ⟨z37,[(.type y8)],[(R 247),(.type y8)],246,z37,true,[],[],false,none,false⟩),⟨[none,none,U (.str z37 463),U (.str z37 471),U (.builtin y9),U V1]⟩⟩
noncomputable def o248 (p : Program) (P : Params) : Obj := ⟨(.type y10),none,(.fields ⟨[(.str z89 514),(R 247),(.builtin y11),(.builtin y12)]⟩),⟨[]⟩⟩
noncomputable def o249 (p : Program) (P : Params) : Obj := ⟨(.type y10),none,(.fields ⟨[(.str z90 516),(R 247),(.builtin y13),N]⟩),⟨[]⟩⟩
noncomputable def o250 (p : Program) (P : Params) : Obj := ⟨(.type y14),none,(.fields ⟨[(R 247),(R 247),(R 247)]⟩),⟨[]⟩⟩
noncomputable def o251 (p : Program) (P : Params) : Obj := ⟨(.type y4),none,(.fields ⟨[(.builtin y15),(R 247)]⟩),⟨[]⟩⟩
noncomputable def o252 (p : Program) (P : Params) : Obj := tu []
noncomputable def o253 (p : Program) (P : Params) : Obj := fi []
noncomputable def o254 (p : Program) (P : Params) : Obj := tu [(.str z116 526),(.str z117 527)]
noncomputable def o255 (p : Program) (P : Params) : Obj := tu []
noncomputable def o256 (p : Program) (P : Params) : Obj := ⟨N,none,(.func ⟨z38,z38,defArgs (tp p 31),.stmts (defBody (tp p 31)),defScope (tp p 31),0,[],N,N,N,N,none,N,N,0⟩),⟨[]⟩⟩
noncomputable def o257 (p : Program) (P : Params) : Obj := cd z38 523 145 2 3 252 true 253 (R 254) (R 255) (R 256) 528 529
noncomputable def o258 (p : Program) (P : Params) : Obj := ⟨(.type y3),none,(F z38 z38 (tp p 31) N N N (.str z3 521) none (R 257) N),⟨[]⟩⟩
noncomputable def o259 (p : Program) (P : Params) : Obj := tu []
noncomputable def o260 (p : Program) (P : Params) : Obj := fi []
noncomputable def o261 (p : Program) (P : Params) : Obj := tu [(.str z118 534)]
noncomputable def o262 (p : Program) (P : Params) : Obj := tu []
noncomputable def o263 (p : Program) (P : Params) : Obj := ⟨N,none,(.func ⟨z39,z39,defArgs (tp p 32),.stmts (defBody (tp p 32)),defScope (tp p 32),0,[],N,N,N,N,none,N,N,0⟩),⟨[]⟩⟩
noncomputable def o264 (p : Program) (P : Params) : Obj := cd z39 531 149 1 3 259 true 260 (R 261) (R 262) (R 263) 535 536
noncomputable def o265 (p : Program) (P : Params) : Obj := ⟨(.type y3),none,(F z39 z39 (tp p 32) N N N (.str z3 521) none (R 264) N),⟨[]⟩⟩
noncomputable def o266 (p : Program) (P : Params) : Obj := tu []
noncomputable def o267 (p : Program) (P : Params) : Obj := fi []
noncomputable def o268 (p : Program) (P : Params) : Obj := tu [(.str z119 541),(.str z120 542),(.str z121 543),(.str z122 544),(.str z123 545),(.str z124 546),(.str z117 547),(.str z125 548),(.str z118 549),(.str z126 550),(.str z127 551)]
noncomputable def o269 (p : Program) (P : Params) : Obj := tu []
noncomputable def o270 (p : Program) (P : Params) : Obj := ⟨N,none,(.func ⟨z40,z40,defArgs (tp p 33),.stmts (defBody (tp p 33)),defScope (tp p 33),0,[],N,N,N,N,none,N,N,0⟩),⟨[]⟩⟩
noncomputable def o271 (p : Program) (P : Params) : Obj := cd z40 538 151 3 3 266 true 267 (R 268) (R 269) (R 270) 552 553
noncomputable def o272 (p : Program) (P : Params) : Obj := ⟨(.type y3),none,(F z40 z40 (tp p 33) N N N (.str z3 521) none (R 271) N),⟨[]⟩⟩
noncomputable def o273 (p : Program) (P : Params) : Obj := tu []
noncomputable def o274 (p : Program) (P : Params) : Obj := fi []
noncomputable def o275 (p : Program) (P : Params) : Obj := tu [(.str z116 558),(.str z119 559),(.str z126 560),(.str z121 561),(.str z128 562),(.str z129 563),(.str z124 564),(.str z117 565)]
noncomputable def o276 (p : Program) (P : Params) : Obj := tu []
noncomputable def o277 (p : Program) (P : Params) : Obj := ⟨N,none,(.func ⟨z41,z41,defArgs (tp p 34),.stmts (defBody (tp p 34)),defScope (tp p 34),0,[],N,N,N,N,none,N,N,0⟩),⟨[]⟩⟩
noncomputable def o278 (p : Program) (P : Params) : Obj := cd z41 555 168 5 3 273 true 274 (R 275) (R 276) (R 277) 566 567
noncomputable def o279 (p : Program) (P : Params) : Obj := ⟨(.type y3),none,(F z41 z41 (tp p 34) N N N (.str z3 521) none (R 278) N),⟨[]⟩⟩
noncomputable def o280 (p : Program) (P : Params) : Obj := tu []
noncomputable def o281 (p : Program) (P : Params) : Obj := fi []
noncomputable def o282 (p : Program) (P : Params) : Obj := tu [(.str z116 572),(.str z119 573),(.str z126 574),(.str z121 575),(.str z130 576),(.str z128 577),(.str z129 578),(.str z124 579),(.str z131 580),(.str z117 581),(.str z132 582)]
noncomputable def o283 (p : Program) (P : Params) : Obj := tu []
noncomputable def o284 (p : Program) (P : Params) : Obj := ⟨N,none,(.func ⟨z42,z42,defArgs (tp p 35),.stmts (defBody (tp p 35)),defScope (tp p 35),0,[],N,N,N,N,none,N,N,0⟩),⟨[]⟩⟩
noncomputable def o285 (p : Program) (P : Params) : Obj := cd z42 569 175 6 3 280 true 281 (R 282) (R 283) (R 284) 583 584
noncomputable def o286 (p : Program) (P : Params) : Obj := ⟨(.type y3),none,(F z42 z42 (tp p 35) N N N (.str z3 521) none (R 285) N),⟨[]⟩⟩
noncomputable def o287 (p : Program) (P : Params) : Obj := tu []
noncomputable def o288 (p : Program) (P : Params) : Obj := fi []
noncomputable def o289 (p : Program) (P : Params) : Obj := ⟨N,none,(.func ⟨z43,z43,defArgs (tp p 36),.stmts (defBody (tp p 36)),defScope (tp p 36),0,[],N,N,N,N,none,N,N,0⟩),⟨[]⟩⟩
noncomputable def o290 (p : Program) (P : Params) : Obj := cd z43 586 189 2 3 287 true 288 N N (R 289) 589 590
noncomputable def o291 (p : Program) (P : Params) : Obj := ⟨(.type y3),none,(F z43 z43 (tp p 36) N N N (.str z3 521) none (R 290) N),⟨[]⟩⟩
noncomputable def o292 (p : Program) (P : Params) : Obj := tu []
noncomputable def o293 (p : Program) (P : Params) : Obj := fi []
noncomputable def o294 (p : Program) (P : Params) : Obj := tu [(.str z119 595),(.str z128 596),(.str z133 597),(.str z118 598),(.str z124 599),(.str z134 600),(.str z135 601),(.str z136 602)]
noncomputable def o295 (p : Program) (P : Params) : Obj := tu []
noncomputable def o296 (p : Program) (P : Params) : Obj := ⟨N,none,(.func ⟨z44,z44,defArgs (tp p 37),.stmts (defBody (tp p 37)),defScope (tp p 37),0,[],N,N,N,N,none,N,N,0⟩),⟨[]⟩⟩
noncomputable def o297 (p : Program) (P : Params) : Obj := cd z44 592 197 3 3 292 true 293 (R 294) (R 295) (R 296) 603 604
noncomputable def o298 (p : Program) (P : Params) : Obj := ⟨(.type y3),none,(F z44 z44 (tp p 37) N N N (.str z3 521) none (R 297) N),⟨[]⟩⟩
noncomputable def o299 (p : Program) (P : Params) : Obj := tu []
noncomputable def o300 (p : Program) (P : Params) : Obj := fi []
noncomputable def o301 (p : Program) (P : Params) : Obj := tu [(.str z116 609),(.str z137 610),(.str z121 611),(.str z128 612),(.str z138 613),(.str z120 614),(.str z130 615),(.str z139 616),(.str z140 617)]
noncomputable def o302 (p : Program) (P : Params) : Obj := tu []
noncomputable def o303 (p : Program) (P : Params) : Obj := ⟨N,none,(.func ⟨z45,z45,defArgs (tp p 38),.stmts (defBody (tp p 38)),defScope (tp p 38),0,[],N,N,N,N,none,N,N,0⟩),⟨[]⟩⟩
noncomputable def o304 (p : Program) (P : Params) : Obj := cd z45 606 211 2 3 299 true 300 (R 301) (R 302) (R 303) 618 619
noncomputable def o305 (p : Program) (P : Params) : Obj := ⟨(.type y3),none,(F z45 z45 (tp p 38) N N N (.str z3 521) none (R 304) N),⟨[]⟩⟩
noncomputable def o306 (p : Program) (P : Params) : Obj := tu []
noncomputable def o307 (p : Program) (P : Params) : Obj := fi []
noncomputable def o308 (p : Program) (P : Params) : Obj := tu [(.str z134 624),(.str z135 625),(.str z133 626),(.str z141 627),(.str z142 628),(.str z143 629),(.str z136 630)]
noncomputable def o309 (p : Program) (P : Params) : Obj := tu []
noncomputable def o310 (p : Program) (P : Params) : Obj := ⟨N,none,(.func ⟨z46,z46,defArgs (tp p 39),.stmts (defBody (tp p 39)),defScope (tp p 39),0,[],N,N,N,N,none,N,N,0⟩),⟨[]⟩⟩
noncomputable def o311 (p : Program) (P : Params) : Obj := cd z46 621 220 4 3 306 true 307 (R 308) (R 309) (R 310) 631 632
noncomputable def o312 (p : Program) (P : Params) : Obj := ⟨(.type y3),none,(F z46 z46 (tp p 39) N N N (.str z3 521) none (R 311) N),⟨[]⟩⟩
noncomputable def o313 (p : Program) (P : Params) : Obj := tu []
noncomputable def o314 (p : Program) (P : Params) : Obj := fi []
noncomputable def o315 (p : Program) (P : Params) : Obj := tu [(.str z144 637),(.str z145 638),(.str z146 639),(.str z117 640),(.str z147 641),(.str z148 642),(.str z149 643)]
noncomputable def o316 (p : Program) (P : Params) : Obj := tu []
noncomputable def o317 (p : Program) (P : Params) : Obj := ⟨N,none,(.func ⟨z47,z47,defArgs (tp p 40),.stmts (defBody (tp p 40)),defScope (tp p 40),0,[],N,N,N,N,none,N,N,0⟩),⟨[]⟩⟩
noncomputable def o318 (p : Program) (P : Params) : Obj := cd z47 634 227 2 3 313 true 314 (R 315) (R 316) (R 317) 644 645
noncomputable def o319 (p : Program) (P : Params) : Obj := ⟨(.type y3),none,(F z47 z47 (tp p 40) N N N (.str z3 521) none (R 318) N),⟨[]⟩⟩
noncomputable def o320 (p : Program) (P : Params) : Obj := tu []
noncomputable def o321 (p : Program) (P : Params) : Obj := fi []
noncomputable def o322 (p : Program) (P : Params) : Obj := tu [(.str z144 650),(.str z150 651),(.str z118 652),(.str z147 653),(.str z148 654),(.str z149 655),(.str z151 656),(.str z145 657)]
noncomputable def o323 (p : Program) (P : Params) : Obj := tu []
noncomputable def o324 (p : Program) (P : Params) : Obj := ⟨N,none,(.func ⟨z48,z48,defArgs (tp p 41),.stmts (defBody (tp p 41)),defScope (tp p 41),0,[],N,N,N,N,none,N,N,0⟩),⟨[]⟩⟩
noncomputable def o325 (p : Program) (P : Params) : Obj := cd z48 647 239 2 3 320 true 321 (R 322) (R 323) (R 324) 658 659
noncomputable def o326 (p : Program) (P : Params) : Obj := ⟨(.type y3),none,(F z48 z48 (tp p 41) N N N (.str z3 521) none (R 325) N),⟨[]⟩⟩
noncomputable def o327 (p : Program) (P : Params) : Obj := tu []
noncomputable def o328 (p : Program) (P : Params) : Obj := fi []
noncomputable def o329 (p : Program) (P : Params) : Obj := tu [(.str z118 664),(.str z152 665),(.str z117 666)]
noncomputable def o330 (p : Program) (P : Params) : Obj := tu []
noncomputable def o331 (p : Program) (P : Params) : Obj := ⟨N,none,(.func ⟨z49,z49,defArgs (tp p 42),.stmts (defBody (tp p 42)),defScope (tp p 42),0,[],N,N,N,N,none,N,N,0⟩),⟨[]⟩⟩
noncomputable def o332 (p : Program) (P : Params) : Obj := cd z49 661 251 2 3 327 true 328 (R 329) (R 330) (R 331) 667 668
noncomputable def o333 (p : Program) (P : Params) : Obj := ⟨(.type y3),none,(F z49 z49 (tp p 42) N N N (.str z3 521) none (R 332) N),⟨[]⟩⟩
noncomputable def o334 (p : Program) (P : Params) : Obj := tu []
noncomputable def o335 (p : Program) (P : Params) : Obj := fi []
noncomputable def o336 (p : Program) (P : Params) : Obj := tu [(.str z118 673),(.str z152 674),(.str z147 675),(.str z148 676)]
noncomputable def o337 (p : Program) (P : Params) : Obj := tu []
noncomputable def o338 (p : Program) (P : Params) : Obj := ⟨N,none,(.func ⟨z50,z50,defArgs (tp p 43),.stmts (defBody (tp p 43)),defScope (tp p 43),0,[],N,N,N,N,none,N,N,0⟩),⟨[]⟩⟩
noncomputable def o339 (p : Program) (P : Params) : Obj := cd z50 670 258 2 3 334 true 335 (R 336) (R 337) (R 338) 677 678
noncomputable def o340 (p : Program) (P : Params) : Obj := ⟨(.type y3),none,(F z50 z50 (tp p 43) N N N (.str z3 521) none (R 339) N),⟨[]⟩⟩
noncomputable def o341 (p : Program) (P : Params) : Obj := tu []
noncomputable def o342 (p : Program) (P : Params) : Obj := fi []
noncomputable def o343 (p : Program) (P : Params) : Obj := tu [(.str z144 683),(.str z119 684),(.str z120 685),(.str z118 686),(.str z124 687),(.str z147 688),(.str z148 689)]
noncomputable def o344 (p : Program) (P : Params) : Obj := tu []
noncomputable def o345 (p : Program) (P : Params) : Obj := ⟨N,none,(.func ⟨z51,z51,defArgs (tp p 44),.stmts (defBody (tp p 44)),defScope (tp p 44),0,[],N,N,N,N,none,N,N,0⟩),⟨[]⟩⟩
noncomputable def o346 (p : Program) (P : Params) : Obj := cd z51 680 272 3 3 341 true 342 (R 343) (R 344) (R 345) 690 691
noncomputable def o347 (p : Program) (P : Params) : Obj := ⟨(.type y3),none,(F z51 z51 (tp p 44) N N N (.str z3 521) none (R 346) N),⟨[]⟩⟩
noncomputable def o348 (p : Program) (P : Params) : Obj := tu []
noncomputable def o349 (p : Program) (P : Params) : Obj := fi []
noncomputable def o350 (p : Program) (P : Params) : Obj := tu [(.str z144 696),(.str z153 697)]
noncomputable def o351 (p : Program) (P : Params) : Obj := tu []
noncomputable def o352 (p : Program) (P : Params) : Obj := ⟨N,none,(.func ⟨z52,z52,defArgs (tp p 45),.stmts (defBody (tp p 45)),defScope (tp p 45),0,[],N,N,N,N,none,N,N,0⟩),⟨[]⟩⟩
noncomputable def o353 (p : Program) (P : Params) : Obj := cd z52 693 285 1 3 348 true 349 (R 350) (R 351) (R 352) 698 699
noncomputable def o354 (p : Program) (P : Params) : Obj := ⟨(.type y3),none,(F z52 z52 (tp p 45) N N N (.str z3 521) none (R 353) N),⟨[]⟩⟩
noncomputable def o355 (p : Program) (P : Params) : Obj := tu []
noncomputable def o356 (p : Program) (P : Params) : Obj := fi []
noncomputable def o357 (p : Program) (P : Params) : Obj := tu [(.str z144 704),(.str z154 705),(.str z150 706),(.str z155 707)]
noncomputable def o358 (p : Program) (P : Params) : Obj := tu []
noncomputable def o359 (p : Program) (P : Params) : Obj := ⟨N,none,(.func ⟨z53,z53,defArgs (tp p 46),.stmts (defBody (tp p 46)),defScope (tp p 46),0,[],N,N,N,N,none,N,N,0⟩),⟨[]⟩⟩
noncomputable def o360 (p : Program) (P : Params) : Obj := cd z53 701 288 4 3 355 true 356 (R 357) (R 358) (R 359) 708 709
noncomputable def o361 (p : Program) (P : Params) : Obj := ⟨(.type y3),none,(F z53 z53 (tp p 46) N N N (.str z3 521) none (R 360) N),⟨[]⟩⟩
noncomputable def o362 (p : Program) (P : Params) : Obj := tu []
noncomputable def o363 (p : Program) (P : Params) : Obj := fi []
noncomputable def o364 (p : Program) (P : Params) : Obj := ⟨N,none,(.func ⟨z54,z54,defArgs (tp p 47),.stmts (defBody (tp p 47)),defScope (tp p 47),0,[],N,N,N,N,none,N,N,0⟩),⟨[]⟩⟩
noncomputable def o365 (p : Program) (P : Params) : Obj := cd z54 711 294 1 3 362 true 363 N N (R 364) 714 715
noncomputable def o366 (p : Program) (P : Params) : Obj := ⟨(.type y3),none,(F z54 z54 (tp p 47) N N N (.str z3 521) none (R 365) N),⟨[]⟩⟩
noncomputable def La (p : Program) (P : Params) : List Obj := [b0 p P,b1 p P,b2 p P,b3 p P,b4 p P,b5 p P,b6 p P,b7 p P,b8 p P,b9 p P,b10 p P,a11 p P,a12 p P,a13 p P,a14 p P]
noncomputable def Lf (p : Program) (P : Params) : List Obj := [b0 p P,b1 p P,b2 p P,o3 p P,b4 p P,b5 p P,b6 p P,b7 p P,b8 p P,b9 p P,b10 p P,a11 p P,o12 p P,a13 p P,a14 p P,o15 p P,o16 p P,o17 p P,o18 p P,o19 p P,o20 p P,o21 p P,o22 p P,o23 p P,o24 p P,o25 p P,o26 p P,o27 p P,o28 p P,o29 p P,o30 p P,o31 p P,o32 p P,o33 p P,o34 p P,o35 p P,o36 p P,o37 p P,o38 p P,o39 p P,o40 p P,o41 p P,o42 p P,o43 p P,o44 p P,o45 p P,o46 p P,o47 p P,o48 p P,o49 p P,o50 p P,o51 p P,o52 p P,o53 p P,o54 p P,o55 p P,o56 p P,o57 p P,o58 p P,o59 p P,o60 p P,o61 p P,o62 p P,o63 p P,o64 p P,o65 p P,o66 p P,o67 p P,o68 p P,o69 p P,o70 p P,o71 p P,o72 p P,o73 p P,o74 p P,o75 p P,o76 p P,o77 p P,o78 p P,o79 p P,o80 p P,o81 p P,o82 p P,o83 p P,o84 p P,o85 p P,o86 p P,o87 p P,o88 p P,o89 p P,o90 p P,o91 p P,o92 p P,o93 p P,o94 p P,o95 p P,o96 p P,o97 p P,o98 p P,o99 p P,o100 p P,o101 p P,o102 p P,o103 p P,o104 p P,o105 p P,o106 p P,o107 p P,o108 p P,o109 p P,o110 p P,o111 p P,o112 p P,o113 p P,o114 p P,o115 p P,o116 p P,o117 p P,o118 p P,o119 p P,o120 p P,o121 p P,o122 p P,o123 p P,o124 p P,o125 p P,o126 p P,o127 p P,o128 p P,o129 p P,o130 p P,o131 p P,o132 p P,o133 p P,o134 p P,o135 p P,o136 p P,o137 p P,o138 p P,o139 p P,o140 p P,o141 p P,o142 p P,o143 p P,o144 p P,o145 p P,o146 p P,o147 p P,o148 p P,o149 p P,o150 p P,o151 p P,o152 p P,o153 p P,o154 p P,o155 p P,o156 p P,o157 p P,o158 p P,o159 p P,o160 p P,o161 p P,o162 p P,o163 p P,o164 p P,o165 p P,o166 p P,o167 p P,o168 p P,o169 p P,o170 p P,o171 p P,o172 p P,o173 p P,o174 p P,o175 p P,o176 p P,o177 p P,o178 p P,o179 p P,o180 p P,o181 p P,o182 p P,o183 p P,o184 p P,o185 p P,o186 p P,o187 p P,o188 p P,o189 p P,o190 p P,o191 p P,o192 p P,o193 p P,o194 p P,o195 p P,o196 p P,o197 p P,o198 p P,o199 p P,o200 p P,o201 p P,o202 p P,o203 p P,o204 p P,o205 p P,o206 p P,o207 p P,o208 p P,o209 p P,o210 p P,o211 p P,o212 p P,o213 p P,o214 p P,o215 p P,o216 p P,o217 p P,o218 p P,o219 p P,o220 p P,o221 p P,o222 p P,o223 p P,o224 p P,o225 p P,o226 p P,o227 p P,o228 p P,o229 p P,o230 p P,o231 p P,o232 p P,o233 p P,o234 p P,o235 p P,o236 p P,o237 p P,o238 p P,o239 p P,o240 p P,o241 p P,o242 p P,o243 p P,o244 p P,o245 p P,o246 p P,o247 p P,o248 p P,o249 p P,o250 p P,o251 p P,o252 p P,o253 p P,o254 p P,o255 p P,o256 p P,o257 p P,o258 p P,o259 p P,o260 p P,o261 p P,o262 p P,o263 p P,o264 p P,o265 p P,o266 p P,o267 p P,o268 p P,o269 p P,o270 p P,o271 p P,o272 p P,o273 p P,o274 p P,o275 p P,o276 p P,o277 p P,o278 p P,o279 p P,o280 p P,o281 p P,o282 p P,o283 p P,o284 p P,o285 p P,o286 p P,o287 p P,o288 p P,o289 p P,o290 p P,o291 p P,o292 p P,o293 p P,o294 p P,o295 p P,o296 p P,o297 p P,o298 p P,o299 p P,o300 p P,o301 p P,o302 p P,o303 p P,o304 p P,o305 p P,o306 p P,o307 p P,o308 p P,o309 p P,o310 p P,o311 p P,o312 p P,o313 p P,o314 p P,o315 p P,o316 p P,o317 p P,o318 p P,o319 p P,o320 p P,o321 p P,o322 p P,o323 p P,o324 p P,o325 p P,o326 p P,o327 p P,o328 p P,o329 p P,o330 p P,o331 p P,o332 p P,o333 p P,o334 p P,o335 p P,o336 p P,o337 p P,o338 p P,o339 p P,o340 p P,o341 p P,o342 p P,o343 p P,o344 p P,o345 p P,o346 p P,o347 p P,o348 p P,o349 p P,o350 p P,o351 p P,o352 p P,o353 p P,o354 p P,o355 p P,o356 p P,o357 p P,o358 p P,o359 p P,o360 p P,o361 p P,o362 p P,o363 p P,o364 p P,o365 p P,o366 p P]
noncomputable def Ta (p : Program) (P : Params) : BT := (B (b0 p P) (B (b1 p P) (B (b3 p P) (B (b7 p P) L L) (B (a11 p P) L L)) (B (b5 p P) (B (b9 p P) L L) (B (a13 p P) L L))) (B (b2 p P) (B (b4 p P) (B (b8 p P) L L) (B (a12 p P) L L)) (B (b6 p P) (B (b10 p P) L L) (B (a14 p P) L L))))
noncomputable def Tf (p : Program) (P : Params) : BT := (B (b0 p P) (B (b1 p P) (B (o3 p P) (B (b7 p P) (B (o15 p P) (B (o31 p P) (B (o63 p P) (B (o127 p P) (B (o255 p P) L L) L) (B (o191 p P) (B (o319 p P) L L) L)) (B (o95 p P) (B (o159 p P) (B (o287 p P) L L) L) (B (o223 p P) (B (o351 p P) L L) L))) (B (o47 p P) (B (o79 p P) (B (o143 p P) (B (o271 p P) L L) L) (B (o207 p P) (B (o335 p P) L L) L)) (B (o111 p P) (B (o175 p P) (B (o303 p P) L L) L) (B (o239 p P) L L)))) (B (o23 p P) (B (o39 p P) (B (o71 p P) (B (o135 p P) (B (o263 p P) L L) L) (B (o199 p P) (B (o327 p P) L L) L)) (B (o103 p P) (B (o167 p P) (B (o295 p P) L L) L) (B (o231 p P) (B (o359 p P) L L) L))) (B (o55 p P) (B (o87 p P) (B (o151 p P) (B (o279 p P) L L) L) (B (o215 p P) (B (o343 p P) L L) L)) (B (o119 p P) (B (o183 p P) (B (o311 p P) L L) L) (B (o247 p P) L L))))) (B (a11 p P) (B (o19 p P) (B (o35 p P) (B (o67 p P) (B (o131 p P) (B (o259 p P) L L) L) (B (o195 p P) (B (o323 p P) L L) L)) (B (o99 p P) (B (o163 p P) (B (o291 p P) L L) L) (B (o227 p P) (B (o355 p P) L L) L))) (B (o51 p P) (B (o83 p P) (B (o147 p P) (B (o275 p P) L L) L) (B (o211 p P) (B (o339 p P) L L) L)) (B (o115 p P) (B (o179 p P) (B (o307 p P) L L) L) (B (o243 p P) L L)))) (B (o27 p P) (B (o43 p P) (B (o75 p P) (B (o139 p P) (B (o267 p P) L L) L) (B (o203 p P) (B (o331 p P) L L) L)) (B (o107 p P) (B (o171 p P) (B (o299 p P) L L) L) (B (o235 p P) (B (o363 p P) L L) L))) (B (o59 p P) (B (o91 p P) (B (o155 p P) (B (o283 p P) L L) L) (B (o219 p P) (B (o347 p P) L L) L)) (B (o123 p P) (B (o187 p P) (B (o315 p P) L L) L) (B (o251 p P) L L)))))) (B (b5 p P) (B (b9 p P) (B (o17 p P) (B (o33 p P) (B (o65 p P) (B (o129 p P) (B (o257 p P) L L) L) (B (o193 p P) (B (o321 p P) L L) L)) (B (o97 p P) (B (o161 p P) (B (o289 p P) L L) L) (B (o225 p P) (B (o353 p P) L L) L))) (B (o49 p P) (B (o81 p P) (B (o145 p P) (B (o273 p P) L L) L) (B (o209 p P) (B (o337 p P) L L) L)) (B (o113 p P) (B (o177 p P) (B (o305 p P) L L) L) (B (o241 p P) L L)))) (B (o25 p P) (B (o41 p P) (B (o73 p P) (B (o137 p P) (B (o265 p P) L L) L) (B (o201 p P) (B (o329 p P) L L) L)) (B (o105 p P) (B (o169 p P) (B (o297 p P) L L) L) (B (o233 p P) (B (o361 p P) L L) L))) (B (o57 p P) (B (o89 p P) (B (o153 p P) (B (o281 p P) L L) L) (B (o217 p P) (B (o345 p P) L L) L)) (B (o121 p P) (B (o185 p P) (B (o313 p P) L L) L) (B (o249 p P) L L))))) (B (a13 p P) (B (o21 p P) (B (o37 p P) (B (o69 p P) (B (o133 p P) (B (o261 p P) L L) L) (B (o197 p P) (B (o325 p P) L L) L)) (B (o101 p P) (B (o165 p P) (B (o293 p P) L L) L) (B (o229 p P) (B (o357 p P) L L) L))) (B (o53 p P) (B (o85 p P) (B (o149 p P) (B (o277 p P) L L) L) (B (o213 p P) (B (o341 p P) L L) L)) (B (o117 p P) (B (o181 p P) (B (o309 p P) L L) L) (B (o245 p P) L L)))) (B (o29 p P) (B (o45 p P) (B (o77 p P) (B (o141 p P) (B (o269 p P) L L) L) (B (o205 p P) (B (o333 p P) L L) L)) (B (o109 p P) (B (o173 p P) (B (o301 p P) L L) L) (B (o237 p P) (B (o365 p P) L L) L))) (B (o61 p P) (B (o93 p P) (B (o157 p P) (B (o285 p P) L L) L) (B (o221 p P) (B (o349 p P) L L) L)) (B (o125 p P) (B (o189 p P) (B (o317 p P) L L) L) (B (o253 p P) L L))))))) (B (b2 p P) (B (b4 p P) (B (b8 p P) (B (o16 p P) (B (o32 p P) (B (o64 p P) (B (o128 p P) (B (o256 p P) L L) L) (B (o192 p P) (B (o320 p P) L L) L)) (B (o96 p P) (B (o160 p P) (B (o288 p P) L L) L) (B (o224 p P) (B (o352 p P) L L) L))) (B (o48 p P) (B (o80 p P) (B (o144 p P) (B (o272 p P) L L) L) (B (o208 p P) (B (o336 p P) L L) L)) (B (o112 p P) (B (o176 p P) (B (o304 p P) L L) L) (B (o240 p P) L L)))) (B (o24 p P) (B (o40 p P) (B (o72 p P) (B (o136 p P) (B (o264 p P) L L) L) (B (o200 p P) (B (o328 p P) L L) L)) (B (o104 p P) (B (o168 p P) (B (o296 p P) L L) L) (B (o232 p P) (B (o360 p P) L L) L))) (B (o56 p P) (B (o88 p P) (B (o152 p P) (B (o280 p P) L L) L) (B (o216 p P) (B (o344 p P) L L) L)) (B (o120 p P) (B (o184 p P) (B (o312 p P) L L) L) (B (o248 p P) L L))))) (B (o12 p P) (B (o20 p P) (B (o36 p P) (B (o68 p P) (B (o132 p P) (B (o260 p P) L L) L) (B (o196 p P) (B (o324 p P) L L) L)) (B (o100 p P) (B (o164 p P) (B (o292 p P) L L) L) (B (o228 p P) (B (o356 p P) L L) L))) (B (o52 p P) (B (o84 p P) (B (o148 p P) (B (o276 p P) L L) L) (B (o212 p P) (B (o340 p P) L L) L)) (B (o116 p P) (B (o180 p P) (B (o308 p P) L L) L) (B (o244 p P) L L)))) (B (o28 p P) (B (o44 p P) (B (o76 p P) (B (o140 p P) (B (o268 p P) L L) L) (B (o204 p P) (B (o332 p P) L L) L)) (B (o108 p P) (B (o172 p P) (B (o300 p P) L L) L) (B (o236 p P) (B (o364 p P) L L) L))) (B (o60 p P) (B (o92 p P) (B (o156 p P) (B (o284 p P) L L) L) (B (o220 p P) (B (o348 p P) L L) L)) (B (o124 p P) (B (o188 p P) (B (o316 p P) L L) L) (B (o252 p P) L L)))))) (B (b6 p P) (B (b10 p P) (B (o18 p P) (B (o34 p P) (B (o66 p P) (B (o130 p P) (B (o258 p P) L L) L) (B (o194 p P) (B (o322 p P) L L) L)) (B (o98 p P) (B (o162 p P) (B (o290 p P) L L) L) (B (o226 p P) (B (o354 p P) L L) L))) (B (o50 p P) (B (o82 p P) (B (o146 p P) (B (o274 p P) L L) L) (B (o210 p P) (B (o338 p P) L L) L)) (B (o114 p P) (B (o178 p P) (B (o306 p P) L L) L) (B (o242 p P) L L)))) (B (o26 p P) (B (o42 p P) (B (o74 p P) (B (o138 p P) (B (o266 p P) L L) L) (B (o202 p P) (B (o330 p P) L L) L)) (B (o106 p P) (B (o170 p P) (B (o298 p P) L L) L) (B (o234 p P) (B (o362 p P) L L) L))) (B (o58 p P) (B (o90 p P) (B (o154 p P) (B (o282 p P) L L) L) (B (o218 p P) (B (o346 p P) L L) L)) (B (o122 p P) (B (o186 p P) (B (o314 p P) L L) L) (B (o250 p P) L L))))) (B (a14 p P) (B (o22 p P) (B (o38 p P) (B (o70 p P) (B (o134 p P) (B (o262 p P) L L) L) (B (o198 p P) (B (o326 p P) L L) L)) (B (o102 p P) (B (o166 p P) (B (o294 p P) L L) L) (B (o230 p P) (B (o358 p P) L L) L))) (B (o54 p P) (B (o86 p P) (B (o150 p P) (B (o278 p P) L L) L) (B (o214 p P) (B (o342 p P) L L) L)) (B (o118 p P) (B (o182 p P) (B (o310 p P) L L) L) (B (o246 p P) L L)))) (B (o30 p P) (B (o46 p P) (B (o78 p P) (B (o142 p P) (B (o270 p P) L L) L) (B (o206 p P) (B (o334 p P) L L) L)) (B (o110 p P) (B (o174 p P) (B (o302 p P) L L) L) (B (o238 p P) (B (o366 p P) L L) L))) (B (o62 p P) (B (o94 p P) (B (o158 p P) (B (o286 p P) L L) L) (B (o222 p P) (B (o350 p P) L L) L)) (B (o126 p P) (B (o190 p P) (B (o318 p P) L L) L) (B (o254 p P) L L))))))))
noncomputable def ks : List Nat := [nat_lit 2,nat_lit 3,nat_lit 15,nat_lit 17,nat_lit 18,nat_lit 20,nat_lit 21,nat_lit 22,nat_lit 25,nat_lit 26,nat_lit 27,nat_lit 29,nat_lit 30,nat_lit 32,nat_lit 33,nat_lit 34,nat_lit 36,nat_lit 37,nat_lit 39,nat_lit 40,nat_lit 48,nat_lit 51,nat_lit 52,nat_lit 53,nat_lit 55,nat_lit 56,nat_lit 58,nat_lit 59,nat_lit 60,nat_lit 62,nat_lit 63,nat_lit 65,nat_lit 66,nat_lit 67,nat_lit 69,nat_lit 70,nat_lit 72,nat_lit 73,nat_lit 74,nat_lit 76,nat_lit 77,nat_lit 79,nat_lit 80,nat_lit 81,nat_lit 83,nat_lit 84,nat_lit 86,nat_lit 87,nat_lit 88,nat_lit 90,nat_lit 91,nat_lit 93,nat_lit 94,nat_lit 95,nat_lit 96,nat_lit 97,nat_lit 98,nat_lit 99,nat_lit 102,nat_lit 104,nat_lit 105,nat_lit 107,nat_lit 108,nat_lit 109,nat_lit 112,nat_lit 113,nat_lit 114,nat_lit 117,nat_lit 118,nat_lit 119,nat_lit 121,nat_lit 122,nat_lit 124,nat_lit 125,nat_lit 126,nat_lit 128,nat_lit 129,nat_lit 131,nat_lit 132,nat_lit 133,nat_lit 134,nat_lit 137,nat_lit 138,nat_lit 139,nat_lit 146,nat_lit 147,nat_lit 148,nat_lit 149,nat_lit 152,nat_lit 159,nat_lit 160,nat_lit 161,nat_lit 164,nat_lit 171,nat_lit 172,nat_lit 173,nat_lit 176,nat_lit 178,nat_lit 179,nat_lit 181,nat_lit 182,nat_lit 183,nat_lit 186,nat_lit 187,nat_lit 188,nat_lit 190,nat_lit 191,nat_lit 193,nat_lit 194,nat_lit 195,nat_lit 197,nat_lit 198,nat_lit 200,nat_lit 201,nat_lit 202,nat_lit 204,nat_lit 205,nat_lit 207,nat_lit 208,nat_lit 209,nat_lit 211,nat_lit 212,nat_lit 214,nat_lit 215,nat_lit 223,nat_lit 224,nat_lit 226,nat_lit 227,nat_lit 229,nat_lit 230,nat_lit 231,nat_lit 233,nat_lit 234,nat_lit 236,nat_lit 237,nat_lit 238,nat_lit 240,nat_lit 241,nat_lit 243,nat_lit 244,nat_lit 245,nat_lit 246,nat_lit 247,nat_lit 248,nat_lit 249,nat_lit 252,nat_lit 254,nat_lit 255,nat_lit 257,nat_lit 258,nat_lit 259,nat_lit 261,nat_lit 262,nat_lit 264,nat_lit 265,nat_lit 266,nat_lit 268,nat_lit 269,nat_lit 271,nat_lit 272,nat_lit 273,nat_lit 275,nat_lit 276,nat_lit 278,nat_lit 279,nat_lit 280,nat_lit 282,nat_lit 283,nat_lit 285,nat_lit 286,nat_lit 287,nat_lit 290,nat_lit 291,nat_lit 292,nat_lit 294,nat_lit 295,nat_lit 297,nat_lit 298,nat_lit 299,nat_lit 301,nat_lit 302,nat_lit 304,nat_lit 305,nat_lit 306,nat_lit 308,nat_lit 309,nat_lit 311,nat_lit 312,nat_lit 313,nat_lit 315,nat_lit 316,nat_lit 318,nat_lit 319,nat_lit 320,nat_lit 322,nat_lit 323,nat_lit 325,nat_lit 326,nat_lit 327,nat_lit 329,nat_lit 330,nat_lit 332,nat_lit 333,nat_lit 334,nat_lit 336,nat_lit 337,nat_lit 339,nat_lit 340,nat_lit 341,nat_lit 343,nat_lit 344,nat_lit 346,nat_lit 347,nat_lit 348,nat_lit 350,nat_lit 351,nat_lit 353,nat_lit 354,nat_lit 355,nat_lit 357,nat_lit 358,nat_lit 360,nat_lit 361,nat_lit 362,nat_lit 365,nat_lit 366]
noncomputable def Kp (p : Program) (P : Params) : Frag := ks.map fun a => (a, (Lf p P).getD a default)
noncomputable def K (P : Params) : Frag := (nat_lit 2,b2 pw P)::(nat_lit 3,o3 pw P)::(nat_lit 15,o15 pw P)::(nat_lit 17,o17 pw P)::(nat_lit 18,o18 pw P)::(nat_lit 20,o20 pw P)::(nat_lit 21,o21 pw P)::(nat_lit 22,o22 pw P)::(nat_lit 25,o25 pw P)::(nat_lit 26,o26 pw P)::(nat_lit 27,o27 pw P)::(nat_lit 29,o29 pw P)::(nat_lit 30,o30 pw P)::(nat_lit 32,o32 pw P)::(nat_lit 33,o33 pw P)::(nat_lit 34,o34 pw P)::(nat_lit 36,o36 pw P)::(nat_lit 37,o37 pw P)::(nat_lit 39,o39 pw P)::(nat_lit 40,o40 pw P)::(nat_lit 48,o48 pw P)::(nat_lit 51,o51 pw P)::(nat_lit 52,o52 pw P)::(nat_lit 53,o53 pw P)::(nat_lit 55,o55 pw P)::(nat_lit 56,o56 pw P)::(nat_lit 58,o58 pw P)::(nat_lit 59,o59 pw P)::(nat_lit 60,o60 pw P)::(nat_lit 62,o62 pw P)::(nat_lit 63,o63 pw P)::(nat_lit 65,o65 pw P)::(nat_lit 66,o66 pw P)::(nat_lit 67,o67 pw P)::(nat_lit 69,o69 pw P)::(nat_lit 70,o70 pw P)::(nat_lit 72,o72 pw P)::(nat_lit 73,o73 pw P)::(nat_lit 74,o74 pw P)::(nat_lit 76,o76 pw P)::(nat_lit 77,o77 pw P)::(nat_lit 79,o79 pw P)::(nat_lit 80,o80 pw P)::(nat_lit 81,o81 pw P)::(nat_lit 83,o83 pw P)::(nat_lit 84,o84 pw P)::(nat_lit 86,o86 pw P)::(nat_lit 87,o87 pw P)::(nat_lit 88,o88 pw P)::(nat_lit 90,o90 pw P)::(nat_lit 91,o91 pw P)::(nat_lit 93,o93 pw P)::(nat_lit 94,o94 pw P)::(nat_lit 95,o95 pw P)::(nat_lit 96,o96 pw P)::(nat_lit 97,o97 pw P)::(nat_lit 98,o98 pw P)::(nat_lit 99,o99 pw P)::(nat_lit 102,o102 pw P)::(nat_lit 104,o104 pw P)::(nat_lit 105,o105 pw P)::(nat_lit 107,o107 pw P)::(nat_lit 108,o108 pw P)::(nat_lit 109,o109 pw P)::(nat_lit 112,o112 pw P)::(nat_lit 113,o113 pw P)::(nat_lit 114,o114 pw P)::(nat_lit 117,o117 pw P)::(nat_lit 118,o118 pw P)::(nat_lit 119,o119 pw P)::(nat_lit 121,o121 pw P)::(nat_lit 122,o122 pw P)::(nat_lit 124,o124 pw P)::(nat_lit 125,o125 pw P)::(nat_lit 126,o126 pw P)::(nat_lit 128,o128 pw P)::(nat_lit 129,o129 pw P)::(nat_lit 131,o131 pw P)::(nat_lit 132,o132 pw P)::(nat_lit 133,o133 pw P)::(nat_lit 134,o134 pw P)::(nat_lit 137,o137 pw P)::(nat_lit 138,o138 pw P)::(nat_lit 139,o139 pw P)::(nat_lit 146,o146 pw P)::(nat_lit 147,o147 pw P)::(nat_lit 148,o148 pw P)::(nat_lit 149,o149 pw P)::(nat_lit 152,o152 pw P)::(nat_lit 159,o159 pw P)::(nat_lit 160,o160 pw P)::(nat_lit 161,o161 pw P)::(nat_lit 164,o164 pw P)::(nat_lit 171,o171 pw P)::(nat_lit 172,o172 pw P)::(nat_lit 173,o173 pw P)::(nat_lit 176,o176 pw P)::(nat_lit 178,o178 pw P)::(nat_lit 179,o179 pw P)::(nat_lit 181,o181 pw P)::(nat_lit 182,o182 pw P)::(nat_lit 183,o183 pw P)::(nat_lit 186,o186 pw P)::(nat_lit 187,o187 pw P)::(nat_lit 188,o188 pw P)::(nat_lit 190,o190 pw P)::(nat_lit 191,o191 pw P)::(nat_lit 193,o193 pw P)::(nat_lit 194,o194 pw P)::(nat_lit 195,o195 pw P)::(nat_lit 197,o197 pw P)::(nat_lit 198,o198 pw P)::(nat_lit 200,o200 pw P)::(nat_lit 201,o201 pw P)::(nat_lit 202,o202 pw P)::(nat_lit 204,o204 pw P)::(nat_lit 205,o205 pw P)::(nat_lit 207,o207 pw P)::(nat_lit 208,o208 pw P)::(nat_lit 209,o209 pw P)::(nat_lit 211,o211 pw P)::(nat_lit 212,o212 pw P)::(nat_lit 214,o214 pw P)::(nat_lit 215,o215 pw P)::(nat_lit 223,o223 pw P)::(nat_lit 224,o224 pw P)::(nat_lit 226,o226 pw P)::(nat_lit 227,o227 pw P)::(nat_lit 229,o229 pw P)::(nat_lit 230,o230 pw P)::(nat_lit 231,o231 pw P)::(nat_lit 233,o233 pw P)::(nat_lit 234,o234 pw P)::(nat_lit 236,o236 pw P)::(nat_lit 237,o237 pw P)::(nat_lit 238,o238 pw P)::(nat_lit 240,o240 pw P)::(nat_lit 241,o241 pw P)::(nat_lit 243,o243 pw P)::(nat_lit 244,o244 pw P)::(nat_lit 245,o245 pw P)::(nat_lit 246,o246 pw P)::(nat_lit 247,o247 pw P)::(nat_lit 248,o248 pw P)::(nat_lit 249,o249 pw P)::(nat_lit 252,o252 pw P)::(nat_lit 254,o254 pw P)::(nat_lit 255,o255 pw P)::(nat_lit 257,o257 pw P)::(nat_lit 258,o258 pw P)::(nat_lit 259,o259 pw P)::(nat_lit 261,o261 pw P)::(nat_lit 262,o262 pw P)::(nat_lit 264,o264 pw P)::(nat_lit 265,o265 pw P)::(nat_lit 266,o266 pw P)::(nat_lit 268,o268 pw P)::(nat_lit 269,o269 pw P)::(nat_lit 271,o271 pw P)::(nat_lit 272,o272 pw P)::(nat_lit 273,o273 pw P)::(nat_lit 275,o275 pw P)::(nat_lit 276,o276 pw P)::(nat_lit 278,o278 pw P)::(nat_lit 279,o279 pw P)::(nat_lit 280,o280 pw P)::(nat_lit 282,o282 pw P)::(nat_lit 283,o283 pw P)::(nat_lit 285,o285 pw P)::(nat_lit 286,o286 pw P)::(nat_lit 287,o287 pw P)::(nat_lit 290,o290 pw P)::(nat_lit 291,o291 pw P)::(nat_lit 292,o292 pw P)::(nat_lit 294,o294 pw P)::(nat_lit 295,o295 pw P)::(nat_lit 297,o297 pw P)::(nat_lit 298,o298 pw P)::(nat_lit 299,o299 pw P)::(nat_lit 301,o301 pw P)::(nat_lit 302,o302 pw P)::(nat_lit 304,o304 pw P)::(nat_lit 305,o305 pw P)::(nat_lit 306,o306 pw P)::(nat_lit 308,o308 pw P)::(nat_lit 309,o309 pw P)::(nat_lit 311,o311 pw P)::(nat_lit 312,o312 pw P)::(nat_lit 313,o313 pw P)::(nat_lit 315,o315 pw P)::(nat_lit 316,o316 pw P)::(nat_lit 318,o318 pw P)::(nat_lit 319,o319 pw P)::(nat_lit 320,o320 pw P)::(nat_lit 322,o322 pw P)::(nat_lit 323,o323 pw P)::(nat_lit 325,o325 pw P)::(nat_lit 326,o326 pw P)::(nat_lit 327,o327 pw P)::(nat_lit 329,o329 pw P)::(nat_lit 330,o330 pw P)::(nat_lit 332,o332 pw P)::(nat_lit 333,o333 pw P)::(nat_lit 334,o334 pw P)::(nat_lit 336,o336 pw P)::(nat_lit 337,o337 pw P)::(nat_lit 339,o339 pw P)::(nat_lit 340,o340 pw P)::(nat_lit 341,o341 pw P)::(nat_lit 343,o343 pw P)::(nat_lit 344,o344 pw P)::(nat_lit 346,o346 pw P)::(nat_lit 347,o347 pw P)::(nat_lit 348,o348 pw P)::(nat_lit 350,o350 pw P)::(nat_lit 351,o351 pw P)::(nat_lit 353,o353 pw P)::(nat_lit 354,o354 pw P)::(nat_lit 355,o355 pw P)::(nat_lit 357,o357 pw P)::(nat_lit 358,o358 pw P)::(nat_lit 360,o360 pw P)::(nat_lit 361,o361 pw P)::(nat_lit 362,o362 pw P)::(nat_lit 365,o365 pw P)::(nat_lit 366,o366 pw P)::[]
noncomputable def keep : List Nat := [0, 2, 3, 4, 5, 7, 8, 9, 10, 11, 14, 15, 16, 18, 19, 20, 22, 23, 24, 25, 26, 27, 28, 29, 31, 32, 33, 34, 35, 36, 37, 38, 39, 40, 41, 42, 43, 44, 45, 46, 47]
noncomputable def loose : List Str := [z23]
noncomputable def env (p : Program) : Env := { scope := p.main.scope, locals := mainNs, globals := mainNs, cells := [], code := (R 13), frame := some 14 }
noncomputable def cE (p : Program) : Code := .body (behindTheImports p) (env p)
noncomputable def qP : Pos := ⟨0,0,0,0⟩
noncomputable def pP : Pos := ⟨0,0,0,0⟩
noncomputable def bP : Pos := ⟨0,0,0,0⟩
noncomputable def fP : Pos := ⟨294,0,322,43⟩
noncomputable def an : Option Value := (some (R 6))
noncomputable abbrev lawAt : Nat := 47
noncomputable abbrev m0 : Nat := 11
noncomputable abbrev nF : Nat := 367
noncomputable abbrev sPre : Nat := 12
noncomputable abbrev sBlk : Nat := 1
noncomputable abbrev sRun : Nat := 2453
noncomputable abbrev sFin : Nat := 2
noncomputable abbrev nAll : Nat := 5630
noncomputable abbrev nA : Nat := 15
noncomputable abbrev tkA : Nat := 187
noncomputable abbrev tkB : Nat := 187
noncomputable abbrev tkM : Nat := 717
noncomputable abbrev tkF : Nat := 717
end
end HD
namespace HD
open PySem PySem.W PyProof.Rows L2
noncomputable section
abbrev S0 (w : World) (os : OsState) : Shared := ⟨boot_heap w.params, ⟨[]⟩, boot_drawn, boot_toks, os⟩
abbrev Sa (p : Program) (w : World) (os : OsState) : Shared := ⟨⟨⟨La p w.params⟩, {}⟩, ⟨[]⟩, {}, tkA, os⟩
abbrev Sb (p : Program) (w : World) (os : OsState) : SharedT := ⟨Ta p w.params, nA, {}, ⟨[]⟩, {}, tkB, os⟩
abbrev Sm (p : Program) (w : World) (os : OsState) : SharedT := ⟨Tf p w.params, nF, {}, ⟨[]⟩, {}, tkM, os⟩
abbrev H1 (p : Program) (P : Params) : Heap := ⟨⟨Lf p P⟩, {}⟩
abbrev Sf (p : Program) (w : World) (os : OsState) : Shared := ⟨H1 p w.params, ⟨[]⟩, {}, tkF, os⟩
abbrev q (p : Program) : Program := view p keep
abbrev Xt (p : Program) (R : WRecords) : Shared → Bool := fun s => xlAt (q p) [] s && recOk R s
theorem l_pre (w : World) (os : OsState) : topGo treeTable pq w m0 an sPre (S0 w os) (topStub pq) = some (Sa pq w os, ⟨denote treeTable (cE pq), cE pq, pP, [topFrame qP]⟩) := by
  rewrite [Fast.te15667345088766844465, Fast.te14364793385576792824, Fast.te11892475500146522536]; kernel_rfl
theorem l_blk (w : World) (os : OsState) : segRun treeTable pq w m0 an 1 sBlk (Sa pq w os) (blockOf (behindTheImports pq) (env pq) (cE pq) pP [topFrame qP]) = some (.next, (Sb pq w os).abs, cE pq, bP) := by
  rewrite [Fast.te14374325043358763698, Fast.te14364793385576792824]; kernel_rfl
theorem l_run (w : World) (os : OsState) : segRunT treeTable pq w m0 an 1 sRun (Sb pq w os) (piecesOf (behindTheImports pq) (env pq) (cE pq) bP [topFrame qP]) = some (.next, Sm pq w os, cE pq, fP) := by
  rewrite [Fast.te10110043849684766642, Fast.te14364793385576792824]; kernel_rfl
theorem l_fin (w : World) (os : OsState) : topRun treeTable pq w m0 an sFin (Sm pq w os).abs ⟨doneF .next, cE pq, fP, [topFrame qP]⟩ = some (Sf pq w os) := by
  rewrite [Fast.te14082659384304107361, Fast.te14364793385576792824]; kernel_rfl
end
end HD
namespace HD
open PySem PySem.W PyProof.Rows L2
noncomputable section
theorem l_size (w : World) : ((boot_heap w.params).isNs mainGlobals && (⟨[]⟩ : Array GenState).size == 0, (boot_heap w.params).objs.size, (boot_heap w.params).nsMap mainGlobals "__annotations__") = (true, m0, an) := by
  rewrite [Fast.te8920871248978507458]; kernel_rfl
theorem l_open : ∀ w : World, (fencedOpening treeTable pq w nAll).map (fun s => (s.heap, s.gens, s.drawn, s.toks)) = some (boot_heap w.params, ⟨[]⟩, boot_drawn, boot_toks) :=
  boot_open (by kernel_rfl) (by kernel_rfl) (fun s => by kernel_rfl)
theorem l_top (w : World) (os : OsState) : topRun treeTable pq w m0 an (sPre + (sBlk + (sRun + sFin))) (S0 w os) (topStub pq) = some (Sf pq w os) := by
  refine go_top (l_pre w os) (piece_block (l_blk w os) ?_)
  have h := piece_app (rest := []) (segRun_of (l_run w os)) (piece_nil (env := env pq) (l_fin w os))
  rw [List.append_nil] at h
  exact h
section
variable (w : World) (os : OsState)
theorem k_a : (staticsOk (importedModules pq.main.body) (boot_heap w.params) (H1 pq w.params) && namesBound pq (H1 pq w.params) && gensDone (Sf pq w os) && laidKept (boot_heap w.params) (H1 pq w.params)) = true := by
  rewrite [Fast.te5923862056798008813]; kernel_rfl
theorem k_b : seen ((recsOf (q pq)).map (·.name)) (ownsOf (q pq)) [] { Sf pq w os with gens := #[] } = expectedOf (q pq) := by
  rewrite [Fast.te5160383126252970620, Fast.te3399658132070893891, Fast.te5991557255702980513]; kernel_rfl
theorem k_c : (Sf pq w os).heap.bltView = bltViewBooted := by kernel_rfl
theorem k_d : ((Sf pq w os).heap.keysOk (looseW (q pq) loose) ((recsOf (q pq)).map (·.name)) ((litsOf (q pq)).map (·.1)) ((clssOf (q pq) (looseW (q pq) loose)).map (·.name)) && (Sf pq w os).heap.accountedOkI (importedModules pq.main.body) && (Sf pq w os).heap.isNs mainGlobals && (Sf pq w os).heap.isNs builtinsNs && tablesOk (q pq) (Sf pq w os).heap && Xt pq [] (Sf pq w os) && (if true then (Sf pq w os).gens.size == 0 else !leftWithCleanup (Sf pq w os).gens)) = true := by
  rewrite [Fast.te10880121769531294198, Fast.te821141287760084731, Fast.te3399658132070893891, Fast.te7409074990110511671, Fast.te13664370479719496447, Fast.te14722251495701143533, Fast.te5923862056798008813, Fast.te10994771534591457954]; kernel_rfl
theorem k_e : tabsOk (q pq) (Sf pq w os) = true := by rewrite [Fast.te479339242167458305]; kernel_rfl
theorem k_f : pinSeenD (q pq) (drecsOf (q pq)) (Sf pq w os) = pinGoodD (drecsOf (q pq)) := by rewrite [Fast.te16090120013241838585, Fast.te3247288618530077131]; kernel_rfl
theorem k_g : plainSeenE (q pq) (looseW (q pq) loose) (Sf pq w os) = plainGoodE (q pq) (looseW (q pq) loose) := by rewrite [Fast.te2386780881361962483, Fast.te821141287760084731]; kernel_rfl
theorem k_h : plainSeenD (q pq) loose (Sf pq w os) = plainGoodD (q pq) loose := by rewrite [Fast.te11698064438423848299]; kernel_rfl
theorem k_i : wideSeen (q pq) (Sf pq w os) = wideGood (q pq) := by rewrite [Fast.te7317090234206586261]; kernel_rfl
theorem k_j : clsSeenW (q pq) loose (Sf pq w os) = clsGoodW (q pq) loose := by rewrite [Fast.te7369524293546568484]; kernel_rfl
theorem k_k : ks.map (Sf pq w os).heap.get? = (Kp pq w.params).map fun p => some p.2 := by kernel_rfl
end
theorem left (p : Program) (e : p = pq) : LeftO p (q p) loose (Xt p []) (fun s => ks.map s.heap.get?) (fun w => (Kp p w.params).map fun p => some p.2) nAll := by
  subst e
  exact LeftO.of_pieces l_open l_size l_top (by decide) fun w => funext fun os => looks_pair (k_a w os) (looks_pair (looks_pair (k_b w os) (looks_pair (k_c w os) (looks_pair (k_d w os) (looks_pair (k_e w os) (looks_pair (k_f w os) (looks_pair (k_g w os) (looks_pair (k_h w os) (looks_pair (k_i w os) (k_j w os))))))))) (k_k w os))
theorem kk : K = Kp pw := by funext P; kernel_rfl
theorem ke : ∀ P, ks = (K P).map (·.1) := fun _ => by kernel_rfl
end
end HD
namespace HD
open PySem PySem.W PyProof.Rows L2
noncomputable section
def d : DefRec := match tp pw lawAt with
  | .FunctionDef n a b _ _ _ sc _ _ ps => ⟨n, a, b, sc, ps⟩
  | _ => ⟨Str.empty, defArgs (tp pw 0), [], defScope (tp pw 0), default⟩
abbrev hk : Hook := kHook K ks ke
theorem leftw : LeftO pw (q pw) loose (Xt pw []) (Hook.obs hk) (Hook.val hk) nAll := by
  have h := left pw pwq
  rw [← kk] at h
  exact h
end
end HD

open PySem PySem.W PyProof.Rows
set_option maxRecDepth 100000 in
set_option maxHeartbeats 0 in
theorem PySem.Challenge.cw_quotefind_k12_best_through_holds : PySem.Challenge.rw_quotefind_k12_best_through.Holds := by
  w_on; o_law
  refine holds_open (q := HD.q HD.pw) (loose := HD.loose) (Xt := HD.Xt HD.pw []) (XP := XL (HD.q HD.pw) []) (Yf := Hook.obs (kHook HD.K HD.ks HD.ke)) (Ya := Hook.val (kHook HD.K HD.ks HD.ke)) (YP := Hook.says (kHook HD.K HD.ks HD.ke)) (d := HD.d) (kwd := []) (N := HD.nAll) HD.leftw (Hook.of (kHook HD.K HD.ks HD.ke)) (Hook.keeps (kHook HD.K HD.ks HD.ke)) (fun s e => xl_of s (Bool.and_eq_true_iff.mp e).1) XL.keeps (by kernel_rfl) (by kernel_rfl) (by kernel_rfl) (fun s e => recFacts_of (Bool.and_eq_true_iff.mp e).2) (by rfl) (by assumption) (by decide +kernel) ⟨rfl, rfl, rfl, rfl, rfl, by decide +kernel⟩ ?hw ?hc
  (case hw => w_witness2)
  k_fill
  refine K12.walk (l := PySem.Challenge.rw_quotefind_k12_best_through) rfl rfl (fun w h Y => PySem.W.kIn_of Y) ?F
  case F =>
    intro w mg fa h KX G hmg
    refine' K12.all_mk KX G hmg ?g_Trails ?g_Terms ?a_is_small_letter ?l_is_small_letter ?c_is_small_letter ?k_is_small_letter ?a_is_word ?l_is_word ?c_is_word ?k_is_word ?a_is_between ?l_is_between ?c_is_between ?k_is_between ?a_check_number ?l_check_number ?c_check_number ?k_check_number ?a_check_near_form ?l_check_near_form ?c_check_near_form ?k_check_near_form ?a_near_prices ?l_near_prices ?c_near_prices ?k_near_prices ?a_Terms___init__ ?i_Terms___init__ ?l_Terms___init__ ?c_Terms___init__ ?k_Terms___init__ ?dv_Terms___init__ ?a_Terms_pair_worth ?i_Terms_pair_worth ?l_Terms_pair_worth ?c_Terms_pair_worth ?k_Terms_pair_worth ?a_greatest ?l_greatest ?c_greatest ?k_greatest ?a_less ?l_less ?c_less ?k_less ?a_begun_or_gone_on ?l_begun_or_gone_on ?c_begun_or_gone_on ?k_begun_or_gone_on ?a_Trails_brought_behind ?i_Trails_brought_behind ?l_Trails_brought_behind ?c_Trails_brought_behind ?k_Trails_brought_behind ?a_Trails___init__ ?i_Trails___init__ ?l_Trails___init__ ?c_Trails___init__ ?k_Trails___init__ ?a_shut_by ?l_shut_by ?c_shut_by ?k_shut_by ?a_open_worths ?l_open_worths ?c_open_worths ?k_open_worths ?a_read_backwards ?l_read_backwards ?c_read_backwards ?k_read_backwards ?a_starting_table ?l_starting_table ?c_starting_table ?k_starting_table ?a_through_worth ?l_through_worth ?c_through_worth ?k_through_worth ?a_best_through ?l_best_through ?c_best_through ?k_best_through ?dv_best_through ?a__law_at ?l__law_at ?c__law_at ?k__law_at ?a__law_whole ?l__law_whole ?c__law_whole ?k__law_whole ?a__law_bank ?l__law_bank ?c__law_bank ?k__law_bank ?a__law_book ?l__law_book ?c__law_book ?k__law_book ?a__law_quote ?l__law_quote ?c__law_quote ?k__law_quote ?a__law_numbers ?l__law_numbers ?c__law_numbers ?k__law_numbers ?a__law_near ?l__law_near ?c__law_near ?k__law_near ?a__law_case ?l__law_case ?c__law_case ?k__law_case ?a__law_pair ?l__law_pair ?c__law_pair ?k__law_pair ?a__law_worth ?l__law_worth ?c__law_worth ?k__law_worth ?a__law_ways ?l__law_ways ?c__law_ways ?k__law_ways ?a__law_texts ?l__law_texts ?c__law_texts ?k__law_texts ?a__law_table ?l__law_table ?c__law_table ?k__law_table ?a__law_taken ?l__law_taken ?c__law_taken ?k__law_taken ?a__law_terms ?l__law_terms ?c__law_terms ?k__law_terms ?a__law_asked ?l__law_asked ?c__law_asked ?k__law_asked ?a_law ?l_law ?c_law ?k_law ?gp_Terms ?gh_Terms ?go_Terms ?gs_Terms ?gm_Terms ?gk_Terms ?na_Terms_same ?na_Terms_out ?na_Terms_into ?na_Terms_least ?na_Terms_part ?na_Terms_near ?na_Terms_prices ?gp_Trails ?gh_Trails ?go_Trails ?gs_Trails ?gm_Trails ?gk_Trails ?na_Trails_out ?na_Trails_into ?na_Trails_ending ?na_Trails_brought ?z_len ?z_range ?z_isinstance ?z_int ?z_bool ?z_str ?z_list ?z_tuple ?z_dict ?z_all ?z_any ?z_min ?z_max ?z_enumerate ?z_ValueError ?y_WORD_MOST ?y_WORTH_MOST ?y_NEAR_MOST ?y_PART_MOST ?x_BadTerms ?xe_BadTerms ?xc_BadTerms ?xo_BadTerms ?xb_BadTerms ?xg_BadTerms ?xn_BadTerms ?xt_BadTerms ?xk_BadTerms ?x_BadNear ?xe_BadNear ?xc_BadNear ?xo_BadNear ?xb_BadNear ?xg_BadNear ?xn_BadNear ?xt_BadNear ?xk_BadNear ?z_reversed
    (case g_Trails => k_is)
    (case g_Terms => k_is)
    (case a_is_small_letter => k_is)
    (case l_is_small_letter => k_is)
    (case c_is_small_letter => k_is)
    (case k_is_small_letter => k_is)
    (case a_is_word => k_is)
    (case l_is_word => k_is)
    (case c_is_word => k_is)
    (case k_is_word => k_is)
    (case a_is_between => k_is)
    (case l_is_between => k_is)
    (case c_is_between => k_is)
    (case k_is_between => k_is)
    (case a_check_number => k_is)
    (case l_check_number => k_is)
    (case c_check_number => k_is)
    (case k_check_number => k_is)
    (case a_check_near_form => k_is)
    (case l_check_near_form => k_is)
    (case c_check_near_form => k_is)
    (case k_check_near_form => k_is)
    (case a_near_prices => k_is)
    (case l_near_prices => k_is)
    (case c_near_prices => k_is)
    (case k_near_prices => k_is)
    (case a_Terms___init__ => k_is)
    (case i_Terms___init__ => k_is)
    (case l_Terms___init__ => k_is)
    (case c_Terms___init__ => k_is)
    (case k_Terms___init__ => k_is)
    (case dv_Terms___init__ => k_is)
    (case a_Terms_pair_worth => k_is)
    (case i_Terms_pair_worth => k_is)
    (case l_Terms_pair_worth => k_is)
    (case c_Terms_pair_worth => k_is)
    (case k_Terms_pair_worth => k_is)
    (case a_greatest => k_is)
    (case l_greatest => k_is)
    (case c_greatest => k_is)
    (case k_greatest => k_is)
    (case a_less => k_is)
    (case l_less => k_is)
    (case c_less => k_is)
    (case k_less => k_is)
    (case a_begun_or_gone_on => k_is)
    (case l_begun_or_gone_on => k_is)
    (case c_begun_or_gone_on => k_is)
    (case k_begun_or_gone_on => k_is)
    (case a_Trails_brought_behind => k_is)
    (case i_Trails_brought_behind => k_is)
    (case l_Trails_brought_behind => k_is)
    (case c_Trails_brought_behind => k_is)
    (case k_Trails_brought_behind => k_is)
    (case a_Trails___init__ => k_is)
    (case i_Trails___init__ => k_is)
    (case l_Trails___init__ => k_is)
    (case c_Trails___init__ => k_is)
    (case k_Trails___init__ => k_is)
    (case a_shut_by => k_is)
    (case l_shut_by => k_is)
    (case c_shut_by => k_is)
    (case k_shut_by => k_is)
    (case a_open_worths => k_is)
    (case l_open_worths => k_is)
    (case c_open_worths => k_is)
    (case k_open_worths => k_is)
    (case a_read_backwards => k_is)
    (case l_read_backwards => k_is)
    (case c_read_backwards => k_is)
    (case k_read_backwards => k_is)
    (case a_starting_table => k_is)
    (case l_starting_table => k_is)
    (case c_starting_table => k_is)
    (case k_starting_table => k_is)
    (case a_through_worth => k_is)
    (case l_through_worth => k_is)
    (case c_through_worth => k_is)
    (case k_through_worth => k_is)
    (case a_best_through => k_is)
    (case l_best_through => k_is)
    (case c_best_through => k_is)
    (case k_best_through => k_is)
    (case dv_best_through => k_is)
    (case a__law_at => k_is)
    (case l__law_at => k_is)
    (case c__law_at => k_is)
    (case k__law_at => k_is)
    (case a__law_whole => k_is)
    (case l__law_whole => k_is)
    (case c__law_whole => k_is)
    (case k__law_whole => k_is)
    (case a__law_bank => k_is)
    (case l__law_bank => k_is)
    (case c__law_bank => k_is)
    (case k__law_bank => k_is)
    (case a__law_book => k_is)
    (case l__law_book => k_is)
    (case c__law_book => k_is)
    (case k__law_book => k_is)
    (case a__law_quote => k_is)
    (case l__law_quote => k_is)
    (case c__law_quote => k_is)
    (case k__law_quote => k_is)
    (case a__law_numbers => k_is)
    (case l__law_numbers => k_is)
    (case c__law_numbers => k_is)
    (case k__law_numbers => k_is)
    (case a__law_near => k_is)
    (case l__law_near => k_is)
    (case c__law_near => k_is)
    (case k__law_near => k_is)
    (case a__law_case => k_is)
    (case l__law_case => k_is)
    (case c__law_case => k_is)
    (case k__law_case => k_is)
    (case a__law_pair => k_is)
    (case l__law_pair => k_is)
    (case c__law_pair => k_is)
    (case k__law_pair => k_is)
    (case a__law_worth => k_is)
    (case l__law_worth => k_is)
    (case c__law_worth => k_is)
    (case k__law_worth => k_is)
    (case a__law_ways => k_is)
    (case l__law_ways => k_is)
    (case c__law_ways => k_is)
    (case k__law_ways => k_is)
    (case a__law_texts => k_is)
    (case l__law_texts => k_is)
    (case c__law_texts => k_is)
    (case k__law_texts => k_is)
    (case a__law_table => k_is)
    (case l__law_table => k_is)
    (case c__law_table => k_is)
    (case k__law_table => k_is)
    (case a__law_taken => k_is)
    (case l__law_taken => k_is)
    (case c__law_taken => k_is)
    (case k__law_taken => k_is)
    (case a__law_terms => k_is)
    (case l__law_terms => k_is)
    (case c__law_terms => k_is)
    (case k__law_terms => k_is)
    (case a__law_asked => k_is)
    (case l__law_asked => k_is)
    (case c__law_asked => k_is)
    (case k__law_asked => k_is)
    (case a_law => k_is)
    (case l_law => k_is)
    (case c_law => k_is)
    (case k_law => k_is)
    (case gp_Terms => k_is)
    (case gh_Terms => k_is)
    (case go_Terms => k_is)
    (case gs_Terms => k_is)
    (case gm_Terms => k_is)
    (case gk_Terms => k_is)
    (case na_Terms_same => k_is)
    (case na_Terms_out => k_is)
    (case na_Terms_into => k_is)
    (case na_Terms_least => k_is)
    (case na_Terms_part => k_is)
    (case na_Terms_near => k_is)
    (case na_Terms_prices => k_is)
    (case gp_Trails => k_is)
    (case gh_Trails => k_is)
    (case go_Trails => k_is)
    (case gs_Trails => k_is)
    (case gm_Trails => k_is)
    (case gk_Trails => k_is)
    (case na_Trails_out => k_is)
    (case na_Trails_into => k_is)
    (case na_Trails_ending => k_is)
    (case na_Trails_brought => k_is)
    (case z_len => k_is)
    (case z_range => k_is)
    (case z_isinstance => k_is)
    (case z_int => k_is)
    (case z_bool => k_is)
    (case z_str => k_is)
    (case z_list => k_is)
    (case z_tuple => k_is)
    (case z_dict => k_is)
    (case z_all => k_is)
    (case z_any => k_is)
    (case z_min => k_is)
    (case z_max => k_is)
    (case z_enumerate => k_is)
    (case z_ValueError => k_is)
    (case y_WORD_MOST => k_is)
    (case y_WORTH_MOST => k_is)
    (case y_NEAR_MOST => k_is)
    (case y_PART_MOST => k_is)
    (case x_BadTerms => k_is)
    (case xe_BadTerms => k_exc)
    (case xc_BadTerms => k_is)
    (case xo_BadTerms => k_is)
    (case xb_BadTerms => k_is)
    (case xg_BadTerms => k_is)
    (case xn_BadTerms => k_is)
    (case xt_BadTerms => k_is)
    (case xk_BadTerms => k_is)
    (case x_BadNear => k_is)
    (case xe_BadNear => k_exc)
    (case xc_BadNear => k_is)
    (case xo_BadNear => k_is)
    (case xb_BadNear => k_is)
    (case xg_BadNear => k_is)
    (case xn_BadNear => k_is)
    (case xt_BadNear => k_is)
    (case xk_BadNear => k_is)
    (case z_reversed => k_is)
#print axioms PySem.Challenge.cw_quotefind_k12_best_through_holds
