import PyProof.Rows.All
import Wide.All
import OpenK.AllK
import Wide.FinOn
import Lean
import PyProof.EqAt
import PyProof.EqKinds
import PyProof.TupleCall
import PySem.Challenge.RW_quotefind_k09_no_ways
set_option Elab.async false
set_option linter.all false
set_option maxRecDepth 100000
/-! THE HAND LAYER, for ints, bools, texts, own classes, LISTS and tuples (index, slices, in, append, pop ..), calls, loops. Paste it whole ahead of your own text; what your proof does not reach may be deleted. -/
namespace L2
open PySem PySem.Spec PyProof.Rows

/-- a key: an int or a str -/
abbrev Key := Sum Int Str
def keyIs : Key → Value → Bool
  | .inl k, v => Value.isInt k v
  | .inr x, v => Value.isStrOf x v
def keyH (w : World) : Key → Int
  | .inl k => hashInt k
  | .inr x => hashStr w x
theorem keyIs_shape : ∀ {k : Key} {v : Value}, keyIs k v = true → (∃ i t, k = Sum.inl i ∧ v = Value.int i t) ∨ (∃ x t, k = Sum.inr x ∧ v = Value.str x t)
  | .inl i, v, h => by
    obtain ⟨t, e⟩ := Value.isInt_shape (k := i) (v := v) h
    exact .inl ⟨i, t, rfl, e⟩
  | .inr x, v, h => by
    obtain ⟨t, e⟩ := Value.isStrOf_shape (x := x) (v := v) h
    exact .inr ⟨x, t, rfl, e⟩
theorem keyIs_int (i : Int) (t : Tok) : keyIs (.inl i) (.int i t) = true := by simp [keyIs, Value.isInt]
theorem keyIs_str (x : Str) (t : Tok) : keyIs (.inr x) (.str x t) = true := by simp [keyIs, Value.isStrOf]
theorem key_ll (a b : Int) : decide ((Sum.inl a : Key) = Sum.inl b) = (a == b) := by
  by_cases e : a = b
  · subst e; simp
  · have h : ¬ (Sum.inl a : Key) = Sum.inl b := fun q => e (Sum.inl.inj q)
    rw [decide_eq_false h]
    exact (beq_eq_false_iff_ne.mpr e).symm
theorem key_rr (a b : Str) : decide ((Sum.inr a : Key) = Sum.inr b) = decide (a = b) := by
  by_cases e : a = b
  · subst e; simp
  · have h : ¬ (Sum.inr a : Key) = Sum.inr b := fun q => e (Sum.inr.inj q)
    rw [decide_eq_false h, decide_eq_false e]
theorem key_lr (a : Int) (b : Str) : decide ((Sum.inl a : Key) = Sum.inr b) = false := decide_eq_false (fun q => nomatch q)
theorem key_rl (a : Str) (b : Int) : decide ((Sum.inr a : Key) = Sum.inl b) = false := decide_eq_false (fun q => nomatch q)

def mixKind (prog : Program) (w : World) : PySem.KeyKind prog w Key where
  is := keyIs
  hash := keyH w
  inj := fun v a b ha hb => by
    rcases keyIs_shape ha with ⟨i, t, rfl, rfl⟩ | ⟨x, t, rfl, rfl⟩
    · rcases keyIs_shape hb with ⟨j, u, rfl, e⟩ | ⟨y, u, rfl, e⟩
      · injection e with e1 _; rw [e1]
      · exact nomatch e
    · rcases keyIs_shape hb with ⟨j, u, rfl, e⟩ | ⟨y, u, rfl, e⟩
      · exact nomatch e
      · injection e with e1 _; rw [e1]
  byValue := fun k v h => by
    rcases keyIs_shape h with ⟨i, t, rfl, rfl⟩ | ⟨x, t, rfl, rfl⟩ <;> rfl
  pyHash := fun hv h => by
    rcases keyIs_shape hv with ⟨i, t, rfl, rfl⟩ | ⟨x, t, rfl, rfl⟩
    · exact wpAny_pyHash_int h
    · exact wpAny_pyHash_str h
  eqBool := fun hu hv h => by
    rcases keyIs_shape hu with ⟨i, t, rfl, rfl⟩ | ⟨x, t, rfl, rfl⟩
    · rcases keyIs_shape hv with ⟨j, u, rfl, rfl⟩ | ⟨y, u, rfl, rfl⟩
      · rw [key_ll] at h; exact wpAny_eqBool_int h
      · rw [key_lr] at h; exact SeqAt.EqAt.int_str i t y u _ _ _ _ h
    · rcases keyIs_shape hv with ⟨j, u, rfl, rfl⟩ | ⟨y, u, rfl, rfl⟩
      · rw [key_rl] at h; exact SeqAt.EqAt.str_int x t j u _ _ _ _ h
      · rw [key_rr] at h; exact wpAny_eqBool_str h
  «strs» := fun k x t v h => by
    rcases keyIs_shape h with ⟨i, u, rfl, e⟩ | ⟨y, u, rfl, e⟩
    · exact nomatch e
    · injection e with e1 _
      subst e1
      cases v <;> rfl

theorem mixKind_int (prog : Program) (w : World) (i : Int) (t : Tok) : (mixKind prog w).is (.inl i) (.int i t) = true := keyIs_int i t
theorem mixKind_str (prog : Program) (w : World) (x : Str) (t : Tok) : (mixKind prog w).is (.inr x) (.str x t) = true := keyIs_str x t
end L2

namespace L2
open PySem PySem.Spec PyProof.Rows

/-- a value, without the heap -/
inductive V where
  | non | bl (b : Bool) | int (i : Int) | str (x : Str) | byt (b : Array UInt8) | flt (b : UInt64) | ref (a : Addr) | ty (n : String)
  deriving DecidableEq

def RelV : V → Value → Prop
  | .non, u => u = Value.none
  | .bl b, u => u = Value.bool b
  | .int i, u => ∃ t, u = Value.int i t
  | .str x, u => ∃ t, u = Value.str x t
  | .byt b, u => ∃ t, u = Value.bytes b t
  | .flt b, u => ∃ t, u = Value.float b t
  | .ref a, u => u = Value.ref a
  | .ty n, u => u = Value.type n

abbrev Vals : List V → List Value → Prop := Paired RelV
theorem Vals.length {xs : List V} {us : List Value} (r : Vals xs us) : xs.length = us.length := Paired.length r
theorem Vals.get : ∀ {xs : List V} {us : List Value} {i : Nat} {x : V}, Vals xs us → xs[i]? = some x → ∃ u, us[i]? = some u ∧ RelV x u
  | _, _, _, _, .nil, e => by simp at e
  | _, _, 0, _, .cons r _, e => by simp at e; subst e; exact ⟨_, rfl, r⟩
  | _, _, i + 1, x, .cons _ t, e => by
    obtain ⟨u, h1, h2⟩ := Vals.get (i := i) (x := x) t (by simpa using e)
    exact ⟨u, by simpa using h1, h2⟩
theorem Vals.set {x : V} {u : Value} (r : RelV x u) : ∀ {xs : List V} {us : List Value} (i : Nat), Vals xs us → Vals (xs.set i x) (us.set i u)
  | _, _, _, .nil => .nil
  | _, _, 0, .cons _ t => .cons r t
  | _, _, i + 1, .cons q t => .cons q (Vals.set r i t)
theorem Vals.append : ∀ {xs ys : List V} {us ws : List Value}, Vals xs us → Vals ys ws → Vals (xs ++ ys) (us ++ ws)
  | _, _, _, _, .nil, s => s
  | _, _, _, _, .cons r t, s => .cons r (Vals.append t s)
theorem Vals.take : ∀ {xs : List V} {us : List Value} (n : Nat), Vals xs us → Vals (xs.take n) (us.take n)
  | _, _, 0, _ => .nil
  | _, _, _ + 1, .nil => .nil
  | _, _, n + 1, .cons r t => .cons r (Vals.take n t)
theorem Vals.drop : ∀ {xs : List V} {us : List Value} (n : Nat), Vals xs us → Vals (xs.drop n) (us.drop n)
  | _, _, 0, r => r
  | _, _, _ + 1, .nil => .nil
  | _, _, n + 1, .cons _ t => Vals.drop n t
def RelO : Option V → Option Value → Prop
  | some v, some u => RelV v u
  | none, none => True
  | _, _ => False
def KV {κ : Type} : List (κ × V) → List (κ × Value) → Prop := Paired fun (p : κ × V) (q : κ × Value) => p.1 = q.1 ∧ RelV p.2 q.2

/-- a key of a dict (00_mix): an int or a text -/
def kV : Key → V
  | .inl i => .int i
  | .inr x => .str x

/-- what stands at a tracked address -/
inductive HO where
  /-- a list -/
  | lst (xs : List V)
  /-- a tuple (never changes) -/
  | tup (xs : List V)
  /-- a dict whose keys are ints and texts; one whose keys are tuples of ints and texts (the empty one is both) -/
  | dK (kvs : List (Key × V)) | dT (kvs : List (List Key × V))
  /-- a set of ints: its members, its size -/
  | set (S : Int → Bool) (n : Nat)
  /-- an instance of the class at C, its dict at dx, its attributes -/
  | ins (C dx : Addr) (fs : List (Str × V))
  /-- the dict of the instance at x -/
  | own (x : Addr)
  /-- the dict of an exception -/
  | xd (fs : List (Str × V))
  /-- a bound method, f of x -/
  | met (f x : Addr)
  /-- a range object lo, lo + 1, .. below hi -/
  | rng (lo hi : Int)
  /-- a thing that is known to the object (the script; a dict while a loop walks it): read, never written while it is so -/
  | frz (o : Obj) (u : HO)
  /-- a code object's table -/
  | tbl (ps : Array Value)
  /-- any other thing, by what is true of its one object (a def of one's own: SetO a S n := HO.ext fun h => ..) -/
  | ext (φ : Heap → Prop)

abbrev Hp := Addr → Option HO
def upd (H : Hp) (a : Addr) (o : HO) : Hp := fun b => if b = a then some o else H b
theorem upd_same {H : Hp} {a : Addr} {o : HO} : upd H a o a = some o := by unfold upd; rw [if_pos rfl]
theorem upd_ne {H : Hp} {a b : Addr} {o : HO} (h : b ≠ a) : upd H a o b = H b := by unfold upd; rw [if_neg h]
theorem upd_upd {H : Hp} {a : Addr} {o u : HO} : upd (upd H a o) a u = upd H a u := by
  funext b; unfold upd; split <;> rfl
/-- two objects of different content stand apart -/
theorem ne_of {H : Hp} {a b : Addr} {o u : HO} (h : H a = some o) (h' : H b = some u) (d : o ≠ u) : a ≠ b := by
  intro e; subst e; rw [h] at h'; exact d (Option.some.inj h')
theorem ne_of_none {H : Hp} {a b : Addr} {o : HO} (h : H a = some o) (h' : H b = none) : a ≠ b := by
  intro e; subst e; rw [h] at h'; cases h'

section
variable (P : Program) (w : World)
def ObjOk (H : Hp) (h : Heap) (a : Addr) : HO → Prop
  | .lst xs => xs.length ≤ sizeLine ∧ ∃ (its : List Value) (n : Nat), Vals xs its ∧ h.get? a = some { cls := .type "list", data := .seq its.toArray n }
  | .tup xs => xs.length ≤ sizeLine ∧ ∃ its : List Value, Vals xs its ∧ IsTup h a its.toArray
  | .dK kvs => kvs.length ≤ sizeLine ∧ (a == sysModules) = false ∧ ∃ vs, KV kvs vs ∧ h.DictOf (mixKind P w) a vs
  | .dT kvs => kvs.length ≤ sizeLine ∧ (a == sysModules) = false ∧ ∃ xs : List (List Key × Addr × Value),
      Paired (fun (p : List Key × V) (q : List Key × Addr × Value) => p.1 = q.1 ∧ H q.2.1 = some (.tup (p.1.map kV)) ∧ RelV p.2 q.2.2) kvs xs ∧
      ∃ o es ep, h.get? a = some o ∧ o.ExactDict ∧ o.data = .dict es ep ∧ es.toList = xs.map (entryOfKey (tupleKind (mixKind P w))) ∧ (xs.map (·.1)).Nodup
  | .set S n => h.SetOf (intKind P w) a S n
  | .ins C dx fs => H dx = some (.own a) ∧ fs.length ≤ 1000 ∧ dx ≠ a ∧ h.get? a = some (PySem.W.instObj C dx) ∧
      ∃ mA, h.Ns1 dx mA ∧ (∀ f, RelO (fs.lookup f) (mA f)) ∧ PySem.Within mA (fs.map (·.1))
  | .own _ => ∃ o, h.get? a = some o
  | .xd fs => ∃ mA, h.Ns1 a mA ∧ ∀ f, RelO (fs.lookup f) (mA f)
  | .rng lo hi => ∃ t u v, h.get? a = some { cls := .type "range", data := .fields #[.int lo t, .int hi u, .int 1 v] }
  | .frz o u => h.get? a = some o ∧ ObjOk H h a u
  | .tbl ps => h.get? a = some { cls := .none, data := .fields ps }
  | .met f x => h.get? a = some (PySem.W.methodObj (.ref f) (.ref x))
  | .ext φ => φ h ∧ (∃ o, h.get? a = some o) ∧ ∀ h1 h2 : Heap, φ h1 → (∀ o, h1.get? a = some o → h2.get? a = some o) → φ h2
/-- the abstract heap is held -/
def HOk (H : Hp) (h : Heap) : Prop := ∀ a o, H a = some o → ObjOk P w H h a o
end

section
variable {P : Program} {w : World} {H H' : Hp} {h h' : Heap} {a : Addr} {o : HO}
theorem ObjOk.lt (x : ObjOk P w H h a o) : a < h.objs.size := by
  cases o with
  | lst xs => obtain ⟨_, _, _, _, e⟩ := x; exact Heap.lt_size e
  | tup xs => obtain ⟨_, _, _, p⟩ := x; exact p.lt
  | dK kvs => obtain ⟨_, _, _, _, o, _, _, e, _⟩ := x; exact Heap.lt_size e
  | dT kvs => obtain ⟨_, _, _, _, o, _, _, e, _⟩ := x; exact Heap.lt_size e
  | set S n => obtain ⟨o, _, _, _, e, _⟩ := x; exact Heap.lt_size e
  | ins C dx fs => obtain ⟨_, _, _, e, _⟩ := x; exact Heap.lt_size e
  | own y => obtain ⟨_, e⟩ := x; exact Heap.lt_size e
  | xd fs => obtain ⟨_, ⟨_, _, _, e, _⟩, _⟩ := x; exact Heap.lt_size e
  | rng lo hi => obtain ⟨_, _, _, e⟩ := x; exact Heap.lt_size e
  | frz ob u => obtain ⟨e, _⟩ := x; exact Heap.lt_size e
  | tbl ps => exact Heap.lt_size (show h.get? a = some _ from x)
  | met f y => exact Heap.lt_size (show h.get? a = some _ from x)
  | ext φ => obtain ⟨_, ⟨_, e⟩, _⟩ := x; exact Heap.lt_size e
theorem Paired.mapP {α β : Type} {F G : α → β → Prop} : ∀ {l₁ : List α} {l₂ : List β}, Paired F l₁ l₂ → (∀ a b, F a b → G a b) → Paired G l₁ l₂
  | _, _, .nil, _ => .nil
  | _, _, .cons r t, f => .cons (f _ _ r) (Paired.mapP t f)
/-- what an object's description leans on: its own object, its own dict, the tuples -/
theorem ObjOk.stay (x : ObjOk P w H h a o) (k : ∀ b u, (b = a ∨ H b = some (.own a)) → h.get? b = some u → h'.get? b = some u)
    (ho : ∀ b, H b = some (.own a) → H' b = some (.own a)) (ht : ∀ b xs, H b = some (.tup xs) → H' b = some (.tup xs)) : ObjOk P w H' h' a o := by
  induction o with
  | lst xs => obtain ⟨z, its, n, r, e⟩ := x; exact ⟨z, its, n, r, k _ _ (.inl rfl) e⟩
  | tup xs => obtain ⟨z, its, r, ob, e, c⟩ := x; exact ⟨z, its, r, ob, k _ _ (.inl rfl) e, c⟩
  | dK kvs => obtain ⟨z, y, vs, r, ob, es, ep, e, c⟩ := x; exact ⟨z, y, vs, r, ob, es, ep, k _ _ (.inl rfl) e, c⟩
  | dT kvs =>
    obtain ⟨z, y, xs, r, ob, es, ep, e, c⟩ := x
    exact ⟨z, y, xs, Paired.mapP r fun p q z => ⟨z.1, ht _ _ z.2.1, z.2.2⟩, ob, es, ep, k _ _ (.inl rfl) e, c⟩
  | set S n => obtain ⟨ob, es, ep, t, e, c⟩ := x; exact ⟨ob, es, ep, t, k _ _ (.inl rfl) e, c⟩
  | ins C dx fs =>
    obtain ⟨d, z, ne, e, mA, ⟨od, es, ep, e2, c⟩, r⟩ := x
    exact ⟨ho _ d, z, ne, k _ _ (.inl rfl) e, mA, ⟨od, es, ep, k _ _ (.inr d) e2, c⟩, r⟩
  | own y => obtain ⟨ob, e⟩ := x; exact ⟨ob, k _ _ (.inl rfl) e⟩
  | xd fs => obtain ⟨mA, ⟨od, es, ep, e, c⟩, r⟩ := x; exact ⟨mA, ⟨od, es, ep, k _ _ (.inl rfl) e, c⟩, r⟩
  | rng lo hi => obtain ⟨t, u, v, e⟩ := x; exact ⟨t, u, v, k _ _ (.inl rfl) e⟩
  | frz ob u ih => obtain ⟨e, q⟩ := x; exact ⟨k _ _ (.inl rfl) e, ih q⟩
  | tbl ps =>
    have e : h.get? a = some { cls := .none, data := .fields ps } := x
    show h'.get? a = some { cls := .none, data := .fields ps }
    exact k a _ (.inl rfl) e
  | met f y =>
    have e : h.get? a = some (PySem.W.methodObj (.ref f) (.ref y)) := x
    show h'.get? a = some (PySem.W.methodObj (.ref f) (.ref y))
    exact k a _ (.inl rfl) e
  | ext φ => obtain ⟨p, ⟨o, e⟩, st⟩ := x; exact ⟨st _ _ p fun o q => k _ _ (.inl rfl) q, ⟨o, k _ _ (.inl rfl) e⟩, st⟩
theorem HOk.lt (x : HOk P w H h) (e : H a = some o) : a < h.objs.size := (x a o e).lt
theorem HOk.fresh (x : HOk P w H h) (e : h.objs.size ≤ a) : H a = none := by
  cases q : H a with
  | none => rfl
  | some u => exact absurd (Nat.lt_of_lt_of_le (x.lt q) e) (Nat.lt_irrefl _)
/-- every object of the heap is kept -/
theorem HOk.kept (x : HOk P w H h) (k : ∀ b u, h.get? b = some u → h'.get? b = some u) : HOk P w H h' := fun a o e =>
  (x a o e).stay (fun b u _ q => k b u q) (fun _ q => q) fun _ _ q => q
/-- a new object is laid and tracked -/
theorem HOk.laid (x : HOk P w H h) (k : ∀ b u, h.get? b = some u → h'.get? b = some u) (hp : h.objs.size ≤ a) (new : ObjOk P w (upd H a o) h' a o) : HOk P w (upd H a o) h' := fun b u e => by
  have hn := x.fresh hp
  by_cases hb : b = a
  · subst hb; rw [upd_same] at e; cases e; exact new
  · rw [upd_ne hb] at e
    exact (x b u e).stay (fun c v _ q => k c v q) (fun c q => by rw [upd_ne (ne_of_none q hn)]; exact q) fun c xs q => by rw [upd_ne (ne_of_none q hn)]; exact q
end

/-- what may be read as u: it is u, or a known u -/
def Rd (H : Hp) (a : Addr) (u : HO) : Prop := H a = some u ∨ ∃ o, H a = some (.frz o u)
theorem Rd.ok {P : Program} {w : World} {H : Hp} {h : Heap} {a : Addr} {u : HO} (r : Rd H a u) (x : HOk P w H h) : ObjOk P w H h a u := by
  rcases r with r | ⟨o, r⟩
  · exact x a u r
  · obtain ⟨_, q⟩ := x a _ r
    exact q
/-- what may be written -/
def Mut : Option HO → Prop
  | some (.lst _) => True
  | some (.dK _) => True
  | some (.dT _) => True
  | some (.set _ _) => True
  | some (.ins _ _ _) => True
  | some (.ext _) => True
  | _ => False
section
variable {P : Program} {w : World} {H : Hp} {h h' : Heap} {x e : Addr} {o' : HO}
/-- the object at e is changed: x itself, or the dict of the instance x -/
theorem HOk.write (ok : HOk P w H h) (mu : Mut (H x)) (he : e = x ∨ H e = some (.own x)) (k : ∀ b u, b ≠ e → h.get? b = some u → h'.get? b = some u) (heo : ∃ u, h'.get? e = some u)
    (new : ObjOk P w (upd H x o') h' x o') : HOk P w (upd H x o') h' := fun b u q => by
  have nown : ∀ c y, H c = some (.own y) → c ≠ x := fun c y r z => by subst z; rw [r] at mu; exact mu
  have ntup : ∀ c xs, H c = some (.tup xs) → c ≠ x := fun c xs r z => by subst z; rw [r] at mu; exact mu
  by_cases hb : b = x
  · subst hb; rw [upd_same] at q; cases q; exact new
  · rw [upd_ne hb] at q
    by_cases hbe : b = e
    · have q' : H b = some (.own x) := by
        rcases he with z | z
        · exact absurd (hbe.trans z) hb
        · rw [hbe]; exact z
      rw [q] at q'; cases q'
      obtain ⟨v, hv⟩ := heo
      exact ⟨v, by rw [hbe]; exact hv⟩
    · refine (ok b u q).stay (fun c v hc r => k c v ?_ r) (fun c r => by rw [upd_ne (nown c b r)]; exact r) fun c xs r => by rw [upd_ne (ntup c xs r)]; exact r
      rcases hc with rfl | hc
      · exact hbe
      · rintro rfl
        rcases he with z | z
        · exact nown c b hc z
        · rw [hc] at z; cases z; exact hb rfl
end

/-! ### kept unless tracked; of the frames at fs (the callers') the slots may change (an exception that passes writes there); of the records at ex (iterators) nothing is said -/
structure Un (fs ex : List Addr) (H H' : Hp) (h h' : Heap) : Prop where
  keep : ∀ b o, h.get? b = some o → H b = none → b ∉ fs → b ∉ ex → h'.get? b = some o
  slot : ∀ b o, h.get? b = some o → H b = none → b ∈ fs → b ∉ ex → ∃ sl, h'.get? b = some { o with slots := sl }
  free : ∀ b o, h.get? b = some o → H b = none → b ∉ ex → H' b = none
  there : ∀ b o, h.get? b = some o → b ∉ ex → ∃ o', h'.get? b = some o'
  tups : ∀ b xs, H b = some (.tup xs) → H' b = some (.tup xs)
  frzs : ∀ b o u, H b = some (.frz o u) → H' b = some (.frz o u)
  tbls : ∀ b ps, H b = some (.tbl ps) → ∃ more, H' b = some (.tbl (ps ++ more))
section
variable {fs fs' ex ex' : List Addr} {H H1 H2 : Hp} {h h1 h2 h' : Heap} {a x e : Addr} {o : HO}
theorem Un.any (u : Un fs ex H H1 h h1) {b : Addr} {ob : Obj} (q : h.get? b = some ob) (n : H b = none) (hx : b ∉ ex) : ∃ sl, h1.get? b = some { ob with slots := sl } := by
  by_cases hb : b ∈ fs
  · exact u.slot b ob q n hb hx
  · exact ⟨ob.slots, u.keep b ob q n hb hx⟩
theorem Un.kept (k : ∀ b u, h.get? b = some u → h'.get? b = some u) : Un fs ex H H h h' :=
  ⟨fun b ob q _ _ _ => k b ob q, fun b ob q _ _ _ => ⟨ob.slots, k b ob q⟩, fun _ _ _ n _ => n, fun b ob q _ => ⟨ob, k b ob q⟩, fun _ _ q => q, fun _ _ _ q => q, fun _ ps q => ⟨#[], by rw [q]; simp⟩⟩
theorem Un.refl : Un fs ex H H h h := Un.kept fun _ _ q => q
theorem Un.laid (k : ∀ b u, h.get? b = some u → h'.get? b = some u) (hp : h.objs.size ≤ a) (hn : H a = none) : Un fs ex H (upd H a o) h h' where
  keep := fun b u q _ _ _ => k b u q
  slot := fun b u q _ _ _ => ⟨u.slots, k b u q⟩
  free := fun b u q n _ => by rw [upd_ne (Nat.ne_of_lt (Nat.lt_of_lt_of_le (Heap.lt_size q) hp))]; exact n
  there := fun b u q _ => ⟨u, k b u q⟩
  tups := fun b xs q => by rw [upd_ne (ne_of_none q hn)]; exact q
  frzs := fun b u xs q => by rw [upd_ne (ne_of_none q hn)]; exact q
  tbls := fun b ps q => ⟨#[], by rw [upd_ne (ne_of_none q hn), q]; simp⟩
theorem Un.write (mu : Mut (H x)) (he : e = x ∨ H e = some (.own x)) (k : ∀ b u, b ≠ e → h.get? b = some u → h'.get? b = some u) (heo : ∃ u, h'.get? e = some u) : Un fs ex H (upd H x o) h h' := by
  have hx : ∀ b, H b = none → b ≠ x := fun b n z => by subst z; rw [n] at mu; exact mu
  have hb : ∀ b, H b = none → b ≠ e := fun b n z => by
    subst z
    rcases he with r | r
    · exact hx b n r
    · rw [n] at r; cases r
  have hm : ∀ b u, H b = some u → ¬ Mut (some u) → b ≠ x := fun b u q nm z => by subst z; rw [q] at mu; exact nm mu
  refine ⟨fun b u q n _ _ => k b u (hb b n) q, fun b u q n _ _ => ⟨u.slots, k b u (hb b n) q⟩, fun b u q n _ => by rw [upd_ne (hx b n)]; exact n, fun b u q _ => ?_,
    fun b xs q => by rw [upd_ne (hm b _ q fun z => z)]; exact q, fun b u xs q => by rw [upd_ne (hm b _ q fun z => z)]; exact q, fun b ps q => ⟨#[], by rw [upd_ne (hm b _ q fun z => z), q]; simp⟩⟩
  by_cases hbe : b = e
  · subst hbe; exact heo
  · exact ⟨u, k b u hbe q⟩
end

/-! ### the heap without what is tracked -/
def trk (h : Heap) (H : Hp) : List Addr := (List.range h.objs.size).filter fun a => (H a).isSome
def hidT (h : Heap) (H : Hp) : Heap := PySem.W.hideAll h (trk h H)
theorem hidT_size (h : Heap) (H : Hp) : (hidT h H).objs.size = h.objs.size := PySem.W.hideAll_size _ _
theorem hidT_get {h : Heap} {H : Hp} {b : Addr} {o : Obj} (e : h.get? b = some o) (n : H b = none) : (hidT h H).get? b = some o :=
  PySem.W.hideAll_get _ e fun hm => by
    have q : (H b).isSome = true := (List.mem_filter.mp hm).2
    rw [n] at q; simp at q
theorem of_hidT {h : Heap} {H : Hp} {b : Addr} {o : Obj} (e : (hidT h H).get? b = some o) : h.get? b = some o ∧ H b = none := by
  have e' : h.get? b = some o := PySem.W.of_hideAll (trk h H) e
  refine ⟨e', ?_⟩
  cases q : H b with
  | none => rfl
  | some x =>
    have hm : b ∈ trk h H := List.mem_filter.mpr ⟨List.mem_range.mpr (Heap.lt_size e'), by simp [q]⟩
    have z : (hidT h H).get? b = none := PySem.W.hideAll_none (trk h H) hm
    rw [z] at e; cases e

/-! ### OpenK's ledger, filled with every new object but one -/
def allNews (g h : Heap) (L : Addr) : List (Addr × Obj) := (List.range h.objs.size).filterMap fun a => if a = L ∨ (g.get? a).isSome = true then none else (h.get? a).map fun o => (a, o)
def rest (g h : Heap) (L d : Addr) : List (Addr × Obj) := (allNews g h L).filter fun p => decide (p.1 ≠ d)
end L2

namespace L2
open PySem PySem.Spec PyProof.Rows

/-- the module's facts, over the base: the heap at the law's entry without what is tracked there -/
structure Mod (K : PySem.W.Frag) (mg : Str → Option Value) (base : Heap) : Prop where
  kin : K.In base
  glob : base.Ns mainGlobals mg
  blt : ∃ mb, base.Ns builtinsNs mb ∧ ∀ x : Str, x ≠ "__name__" → mb x = bootBuiltins x
  nolimit : base.NoLimit

/-- the context: a def's body (or a comprehension's block) running. base: fixed through the whole law; s₀, H₀: the entry; outer: the frames whose slots others may change (a def's callers); stack: all frames that run;
   ex: iterators that were made ahead of the entry and are walked here (a comprehension's); fn: the names whose cells were made at the entry (a def: all; a comprehension's block: its own); calm: not within an except suite; pn: pins that every state bears; xe: what is wanted of an exception that leaves the code -/
structure Cx where
  prog : Program
  w : World
  K : PySem.W.Frag
  mg : Str → Option Value
  base : Heap
  A : Around
  N : List Str
  s₀ : Shared
  H₀ : Hp
  env : Env
  outer : List Env
  stack : List Env
  ex : List Addr
  fn : Str → Bool
  calm : Bool
  pn : List (Addr × Obj)
  xe : Value → Shared → Prop
/-- the callers' frames -/
def frs (l : List Env) : List Addr := l.filterMap (·.frame)
abbrev Cx.fs (X : Cx) : List Addr := frs X.outer

def Vis (sc : Scope) (x : Str) : Prop := sc.names.lookup x = some .local ∨ sc.names.lookup x = some .cell ∨ sc.names.lookup x = some .free
def Loc (sc : Scope) (x : Str) : Prop := sc.names.lookup x = some .local ∨ sc.names.lookup x = some .cell
def Look (env : Env) (h : Heap) (m : Str → Option Value) (x : Str) (u : Value) : Prop :=
  (env.kindOf x = some .local ∧ m x = some u) ∨ ((env.kindOf x = some .cell ∨ env.kindOf x = some .free) ∧ ∃ c, env.cells.lookup x = some c ∧ h.IsCell c (some u))

structure Cx.Ok (X : Cx) : Prop where
  mod : Mod X.K X.mg X.base
  kind : X.env.scope.kind = .function
  glob : X.env.globals = mainGlobals
  blt : X.env.builtins = builtinsNs
  above : X.s₀.heap.objs.size ≤ X.env.locals
  inj : ∀ x y c, X.env.cells.lookup x = some c → X.env.cells.lookup y = some c → x = y
  has : ∀ x, (X.env.kindOf x = some .cell ∨ X.env.kindOf x = some .free) → ∃ c, X.env.cells.lookup x = some c
  cab : ∀ x c, X.fn x = true → X.env.cells.lookup x = some c → X.s₀.heap.objs.size ≤ c
  hd : X.calm = true → X.A.handled = none
  frames : X.A.frames = some X.stack
  stk : X.stack = X.outer ∨ (X.stack = X.env :: X.outer ∧ X.env.frame = some X.env.locals)
  exf : ∀ b ∈ X.ex, b ≠ X.env.locals ∧ ∀ x c, X.env.cells.lookup x = some c → c ≠ b
  bs : ∀ b o, X.base.get? b = some o → X.s₀.heap.get? b = some o ∧ X.H₀ b = none
  bsz : X.base.objs.size ≤ X.s₀.heap.objs.size
  noex : ∀ b o, X.base.get? b = some o → b ∉ X.ex
  exfs : ∀ b ∈ X.ex, b ∉ X.fs
  funs : X.s₀.heap.FunFrames X.base X.outer
  frf : ∀ b ∈ X.fs, X.H₀ b = none

structure Inv (X : Cx) (pins : List (Addr × Obj)) (σ : List (Option V)) (H : Hp) (s : Shared) : Prop where
  ok : X.Ok
  os : s.os = X.s₀.os
  bare : AllBare s.gens
  base : Un X.fs X.ex X.H₀ H X.s₀.heap s.heap
  loc : ∃ m, s.heap.Ns X.env.locals m ∧ ∀ (i : Nat) (x : Str) (v : V), X.N[i]? = some x → σ[i]? = some (some v) → Vis X.env.scope x → ∃ u, RelV v u ∧ Look X.env s.heap m x u
  cell : ∀ x c, X.env.cells.lookup x = some c → ∃ v, s.heap.IsCell c v
  free : H X.env.locals = none
  freeC : ∀ x c, X.env.cells.lookup x = some c → H c = none
  pin : ∀ p ∈ X.pn ++ pins, s.heap.get? p.1 = some p.2 ∧ H p.1 = none ∧ p.1 ≠ X.env.locals ∧ p.1 ∉ X.fs ∧ ∀ v, p.2.data ≠ .cell v
  hok : HOk X.prog X.w H s.heap
  len : σ.length = X.N.length

section
variable {X : Cx} {pins : List (Addr × Obj)} {σ : List (Option V)} {H H' : Hp} {s : Shared} {h' : Heap}

theorem Cx.Ok.nofr (ok : X.Ok) {b : Addr} {o : Obj} (e : X.base.get? b = some o) : b ∉ X.fs := fun hb => by
  have := (ok.funs.mem hb).1
  rw [e] at this; cases this
theorem Inv.bs (I : Inv X pins σ H s) : ∀ b o, X.base.get? b = some o → s.heap.get? b = some o ∧ H b = none := fun b o e =>
  ⟨I.base.keep b o (I.ok.bs b o e).1 (I.ok.bs b o e).2 (I.ok.nofr e) (I.ok.noex b o e), I.base.free b o (I.ok.bs b o e).1 (I.ok.bs b o e).2 (I.ok.noex b o e)⟩
theorem Inv.bk (I : Inv X pins σ H s) : ∀ b o, X.base.get? b = some o → s.heap.get? b = some o := fun b o e => (I.bs b o e).1
theorem Inv.mod (I : Inv X pins σ H s) : Mod X.K X.mg X.base := I.ok.mod
theorem Inv.kIn (I : Inv X pins σ H s) : X.K.In s.heap := I.ok.mod.kin.keeps I.bk
theorem Inv.lt (I : Inv X pins σ H s) : X.env.locals < s.heap.objs.size := let ⟨_, hn, _⟩ := I.loc; hn.lt
theorem Inv.sz (I : Inv X pins σ H s) : X.s₀.heap.objs.size ≤ s.heap.objs.size := Nat.le_trans I.ok.above (Nat.le_of_lt I.lt)
theorem Inv.nofs (I : Inv X pins σ H s) {a : Addr} (h : s.heap.objs.size ≤ a) : a ∉ X.fs := fun hb => by
  obtain ⟨_, o, ho, _⟩ := I.ok.funs.mem hb
  exact absurd (Nat.lt_of_lt_of_le (Heap.lt_size ho) (Nat.le_trans I.sz h)) (Nat.lt_irrefl _)
theorem Inv.cne (I : Inv X pins σ H s) : ∀ x c, X.env.cells.lookup x = some c → c ≠ X.env.locals := fun x c e z => by
  obtain ⟨v, o, ho, hd⟩ := I.cell x c e
  obtain ⟨m, ⟨o', es, ep, ho', hd', _⟩, _⟩ := I.loc
  rw [z, ho'] at ho; cases ho; rw [hd'] at hd; cases hd
theorem Inv.funs (I : Inv X pins σ H s) : s.heap.FunFrames X.base X.outer := by
  have all : ∀ (l : List Env), (∀ b ∈ frs l, b ∈ X.fs) → X.s₀.heap.FunFrames X.base l → s.heap.FunFrames X.base l := by
    intro l
    induction l with
    | nil => intro _ _; trivial
    | cons env r ih =>
      intro hs hl
      obtain ⟨hk, ⟨L, o, hf, hn, ho, hd⟩, hr⟩ := hl
      have hL : L ∈ X.fs := hs L (by unfold frs; rw [List.filterMap_cons, hf]; exact List.mem_cons_self)
      obtain ⟨sl, e⟩ := I.base.slot L o ho (I.ok.frf L hL) hL fun z => I.ok.exfs L z hL
      exact ⟨hk, ⟨L, _, hf, hn, e, hd⟩, ih (fun b hb => hs b (by unfold frs; rw [List.filterMap_cons, hf]; exact List.mem_cons_of_mem _ hb)) hr⟩
  exact all X.outer (fun _ hb => hb) I.ok.funs

/-- the frames that run, for a call -/
theorem Inv.stack (I : Inv X pins σ H s) : s.heap.FunFrames X.base X.stack := by
  rcases I.ok.stk with e | ⟨e, hf⟩
  · rw [e]; exact I.funs
  · rw [e]
    obtain ⟨m, hn, _⟩ := I.loc
    refine .cons (by rw [I.ok.kind]; decide) hf hn ?_ I.funs
    exact Heap.get?_none_of_le (Nat.le_trans I.ok.bsz I.ok.above)
theorem Inv.stkSub (I : Inv X pins σ H s) : ∀ b ∈ frs X.stack, b ∈ X.env.locals :: X.fs := fun b hb => by
  rcases I.ok.stk with e | ⟨e, hf⟩
  · rw [e] at hb; exact List.mem_cons_of_mem _ hb
  · rw [e] at hb
    unfold frs at hb
    rw [List.filterMap_cons, hf] at hb
    exact hb
theorem Inv.stkFree (I : Inv X pins σ H s) : ∀ b ∈ frs X.stack, H b = none := fun b hb => by
  rcases List.mem_cons.mp (I.stkSub b hb) with e | hb
  · rw [e]; exact I.free
  · obtain ⟨_, o, ho, _⟩ := I.ok.funs.mem hb
    exact I.base.free b o ho (I.ok.frf b hb) fun z => I.ok.exfs b z hb

/-- THE STEP: the untracked objects but the frame and the records at ch are kept (the callers' frames up to slots), the frame's map is kept, the new abstract heap is held -/
theorem Inv.step {g' : Array GenState} {t' : Nat} {d' : Drawn} {ch : List Addr} (I : Inv X pins σ H s)
    (hch : ∀ b ∈ ch, (b ∈ X.ex ∨ X.s₀.heap.objs.size ≤ b) ∧ b ≠ X.env.locals ∧ (∀ x c, X.env.cells.lookup x = some c → c ≠ b) ∧ ∀ p ∈ X.pn ++ pins, p.1 ≠ b)
    (keep : ∀ b o, b ≠ X.env.locals → b ∉ X.fs → b ∉ ch → s.heap.get? b = some o → H b = none → h'.get? b = some o)
    (slot : ∀ b o, b ≠ X.env.locals → b ∈ X.fs → b ∉ ch → s.heap.get? b = some o → H b = none → ∃ sl, h'.get? b = some { o with slots := sl }) (free : ∀ b o, b ∉ ch → s.heap.get? b = some o → H b = none → H' b = none)
    (there : ∀ b o, b ∉ ch → s.heap.get? b = some o → ∃ o', h'.get? b = some o')
    (tups : ∀ b xs, H b = some (.tup xs) → H' b = some (.tup xs)) (frzs : ∀ b o u, H b = some (.frz o u) → H' b = some (.frz o u)) (tbls : ∀ b ps, H b = some (.tbl ps) → ∃ more, H' b = some (.tbl (ps ++ more)))
    (ns : ∀ m, s.heap.Ns X.env.locals m → h'.Ns X.env.locals m) (hok : HOk X.prog X.w H' h') (hg : AllBare g') :
    Inv X pins σ H' { s with heap := h', gens := g', drawn := d', toks := t' } := by
  have neL : ∀ b o, X.s₀.heap.get? b = some o → b ≠ X.env.locals := fun b o e => Nat.ne_of_lt (Nat.lt_of_lt_of_le (Heap.lt_size e) I.ok.above)
  have neC : ∀ b o, X.s₀.heap.get? b = some o → b ∉ X.ex → b ∉ ch := fun b o e hx hb => by
    rcases (hch b hb).1 with z | z
    · exact hx z
    · exact absurd (Nat.lt_of_lt_of_le (Heap.lt_size e) z) (Nat.lt_irrefl _)
  have cellK : ∀ x c, X.env.cells.lookup x = some c → ∀ v, s.heap.IsCell c v → h'.IsCell c v := fun x c e v ⟨o, ho, hd⟩ => by
    have nch : c ∉ ch := fun z => (hch c z).2.2.1 x c e rfl
    by_cases hc : c ∈ X.fs
    · obtain ⟨sl, q⟩ := slot c o (I.cne x c e) hc nch ho (I.freeC x c e)
      exact ⟨_, q, hd⟩
    · exact ⟨o, keep c o (I.cne x c e) hc nch ho (I.freeC x c e), hd⟩
  refine ⟨I.ok, I.os, hg, ⟨fun b o e n hb hx => ?_, fun b o e n hb hx => ?_, fun b o e n hx => ?_, fun b o e hx => ?_, fun b xs e => tups b xs (I.base.tups b xs e), fun b o xs e => frzs b o xs (I.base.frzs b o xs e), fun b ps e => ?_⟩, ?_, fun x c e => ?_, ?_, fun x c e => ?_, fun p hp => ?_, hok, I.len⟩
  · exact keep b o (neL b o e) hb (neC b o e hx) (I.base.keep b o e n hb hx) (I.base.free b o e n hx)
  · obtain ⟨sl, e1⟩ := I.base.slot b o e n hb hx
    obtain ⟨sl', e2⟩ := slot b _ (neL b o e) hb (neC b o e hx) e1 (I.base.free b o e n hx)
    exact ⟨sl', e2⟩
  · obtain ⟨o', e1⟩ := I.base.there b o e hx
    exact free b o' (neC b o e hx) e1 (I.base.free b o e n hx)
  · obtain ⟨o', e1⟩ := I.base.there b o e hx
    exact there b o' (neC b o e hx) e1
  · obtain ⟨m1, e1⟩ := I.base.tbls b ps e
    obtain ⟨m2, e2⟩ := tbls b _ e1
    exact ⟨m1 ++ m2, by rw [e2, Array.append_assoc]⟩
  · obtain ⟨m, hn, hl⟩ := I.loc
    refine ⟨m, ns m hn, fun i x v e1 e2 e3 => ?_⟩
    obtain ⟨u, r, l⟩ := hl i x v e1 e2 e3
    refine ⟨u, r, ?_⟩
    rcases l with l | ⟨k, c, e, z⟩
    · exact .inl l
    · exact .inr ⟨k, c, e, cellK x c e _ z⟩
  · obtain ⟨v, z⟩ := I.cell x c e
    exact ⟨v, cellK x c e v z⟩
  · obtain ⟨m, ⟨o, _, _, ho, _⟩, _⟩ := I.loc
    exact free _ o (fun z => (hch _ z).2.1 rfl) ho I.free
  · obtain ⟨v, o, ho, hd⟩ := I.cell x c e
    exact free c o (fun z => (hch c z).2.2.1 x c e rfl) ho (I.freeC x c e)
  · obtain ⟨e, n, ne, nf, d⟩ := I.pin p hp
    have nch : p.1 ∉ ch := fun z => (hch p.1 z).2.2.2 p hp rfl
    exact ⟨keep p.1 p.2 ne nf nch e n, free p.1 p.2 nch e n, ne, nf, d⟩
/-- .. where the frame's own object is kept too -/
theorem Inv.un {t' : Nat} (I : Inv X pins σ H s) (u : Un X.fs [] H H' s.heap h') (hok : HOk X.prog X.w H' h') : Inv X pins σ H' { s with heap := h', toks := t' } := by
  obtain ⟨m, ⟨o, es, ep, ho, r⟩, _⟩ := id I.loc
  obtain ⟨sl, hL⟩ := u.any ho I.free (by simp)
  exact I.step (g' := s.gens) (d' := s.drawn) (ch := []) (fun _ z => nomatch z) (fun b o _ hb _ e n => u.keep b o e n hb (by simp)) (fun b o _ hb _ e n => u.slot b o e n hb (by simp)) (fun b o _ e n => u.free b o e n (by simp)) (fun b o _ e => u.there b o e (by simp)) u.tups u.frzs u.tbls (fun m' hm => by
    obtain ⟨o', es', ep', ho', r'⟩ := hm
    rw [ho] at ho'; cases ho'
    exact ⟨_, es', ep', hL, r'⟩) hok I.bare
/-- behind a call (or a comprehension's block): the slots of this frame may have changed too, the records at ch may have turned -/
theorem Inv.call {g' : Array GenState} {t' : Nat} {d' : Drawn} {ch : List Addr} (I : Inv X pins σ H s) (u : Un (frs X.stack) ch H H' s.heap h') (hok : HOk X.prog X.w H' h') (hg : AllBare g')
    (hch : ∀ b ∈ ch, (b ∈ X.ex ∨ X.s₀.heap.objs.size ≤ b) ∧ b ≠ X.env.locals ∧ (∀ x c, X.env.cells.lookup x = some c → c ≠ b) ∧ ∀ p ∈ X.pn ++ pins, p.1 ≠ b) :
    Inv X pins σ H' { s with heap := h', gens := g', drawn := d', toks := t' } := by
  obtain ⟨m, ⟨o, es, ep, ho, r⟩, _⟩ := id I.loc
  obtain ⟨sl, hL⟩ := u.any ho I.free fun z => (hch _ z).2.1 rfl
  exact I.step (ch := ch) hch (fun b o hL hb hc e n => u.keep b o e n (fun z => (List.mem_cons.mp (I.stkSub b z)).elim hL hb) hc) (fun b o _ _ hc e n => u.any e n hc) (fun b o hc e n => u.free b o e n hc) (fun b o hc e => u.there b o e hc) u.tups u.frzs u.tbls (fun m' hm => by
    obtain ⟨o', es', ep', ho', r'⟩ := hm
    rw [ho] at ho'; cases ho'
    exact ⟨_, es', ep', hL, r'⟩) hok hg
/-- an untracked record of ours (an iterator) has turned -/
theorem Inv.turned {t' : Nat} {it : Addr} (I : Inv X pins σ H s) (k : ∀ b o, b ≠ it → s.heap.get? b = some o → h'.get? b = some o) (hn : H it = none) (hL : it ≠ X.env.locals)
    (h1 : it ∈ X.ex ∨ X.s₀.heap.objs.size ≤ it) (h2 : ∀ x c, X.env.cells.lookup x = some c → c ≠ it) (h3 : ∀ p ∈ X.pn ++ pins, p.1 ≠ it) : Inv X pins σ H { s with heap := h', toks := t' } := by
  have nit : ∀ b u, H b = some u → b ≠ it := fun b u e z => by rw [z, hn] at e; cases e
  refine I.step (g' := s.gens) (d' := s.drawn) (ch := [it]) (fun b hb => ?_) (fun b o _ _ hc e _ => k b o (fun z => hc (by simp [z])) e) (fun b o _ _ hc e _ => ⟨o.slots, k b o (fun z => hc (by simp [z])) e⟩) (fun _ _ _ _ n => n)
    (fun b o hc e => ⟨o, k b o (fun z => hc (by simp [z])) e⟩) (fun _ _ e => e) (fun _ _ _ e => e) (fun b ps e => ⟨#[], by rw [e]; simp⟩) (fun m hm => ?_) (fun b u e => ?_) I.bare
  · have e : b = it := by simpa using hb
    subst e
    exact ⟨h1, hL, h2, h3⟩
  · obtain ⟨o, es, ep, ho, r⟩ := hm
    exact ⟨o, es, ep, k _ o (Ne.symm hL) ho, r⟩
  · refine (I.hok b u e).stay (fun c v hc q => k c v ?_ q) (fun _ q => q) fun _ _ q => q
    rcases hc with z | z
    · rw [z]; exact nit b u e
    · exact nit c _ z
theorem Inv.tok (I : Inv X pins σ H s) (t : Nat) : Inv X pins σ H { s with toks := t } := I.un (h' := s.heap) (t' := t) Un.refl I.hok
/-- all objects kept -/
theorem Inv.kept {t' : Nat} (I : Inv X pins σ H s) (k : ∀ b u, s.heap.get? b = some u → h'.get? b = some u) : Inv X pins σ H { s with heap := h', toks := t' } := I.un (Un.kept k) (I.hok.kept k)
/-- a new object laid and tracked -/
theorem Inv.laid {a : Addr} {o : HO} {t' : Nat} (I : Inv X pins σ H s) (k : ∀ b u, s.heap.get? b = some u → h'.get? b = some u) (hp : s.heap.objs.size ≤ a) (new : ObjOk X.prog X.w (upd H a o) h' a o) :
    Inv X pins σ (upd H a o) { s with heap := h', toks := t' } := I.un (Un.laid k hp (I.hok.fresh hp)) (I.hok.laid k hp new)
/-- an object written -/
theorem Inv.write {x e : Addr} {o : HO} {t' : Nat} (I : Inv X pins σ H s) (mu : Mut (H x)) (he : e = x ∨ H e = some (.own x)) (k : ∀ b u, b ≠ e → s.heap.get? b = some u → h'.get? b = some u) (heo : ∃ u, h'.get? e = some u)
    (new : ObjOk X.prog X.w (upd H x o) h' x o) : Inv X pins σ (upd H x o) { s with heap := h', toks := t' } := I.un (Un.write mu he k heo) (I.hok.write mu he k heo new)
theorem Inv.pins_of {pins' : List (Addr × Obj)} (I : Inv X pins σ H s) (h : ∀ p ∈ pins', s.heap.get? p.1 = some p.2 ∧ H p.1 = none ∧ p.1 ≠ X.env.locals ∧ p.1 ∉ X.fs ∧ ∀ v, p.2.data ≠ .cell v) : Inv X pins' σ H s :=
  ⟨I.ok, I.os, I.bare, I.base, I.loc, I.cell, I.free, I.freeC, fun p hp => (List.mem_append.mp hp).elim (fun z => I.pin p (List.mem_append_left _ z)) (h p), I.hok, I.len⟩

theorem nodup_ix {N : List Str} (hN : N.Nodup) {i j : Nat} {x : Str} (a : N[i]? = some x) (b : N[j]? = some x) : i = j := by
  obtain ⟨h1, e1⟩ := List.getElem?_eq_some_iff.mp a
  obtain ⟨h2, e2⟩ := List.getElem?_eq_some_iff.mp b
  exact (List.getElem_inj hN).mp (e1.trans e2.symm)

/-- a name is stored; what changed -/
theorem store_ok2 {M : Model} {A : Around} {E : Value → Shared → Prop} {i : Nat} {x : Str} {v : V} {u : Value} {Q : Unit → Shared → Prop} (I : Inv X pins σ H s) (hN : X.N.Nodup) (hi : X.N[i]? = some x) (hx : Loc X.env.scope x) (r : RelV v u)
    (h : ∀ s', Inv X pins (σ.set i (some v)) H s' → (∃ a, Heap.SameBut a s.heap s'.heap ∧ (a = X.env.locals ∨ X.env.cells.lookup x = some a)) → Q () s') (hf : X.fn x = true ∨ X.env.scope.names.lookup x = some .local := by first | exact .inl rfl | exact .inr rfl | assumption) : wpAny M A (storeName X.env x u) Q E s := by
  obtain ⟨m, hn, hl⟩ := id I.loc
  have hcls : (X.env.scope.kind == .class || (X.env.scope.kind == .module && X.env.locals != X.env.globals)) = false := by rw [I.ok.kind]; rfl
  have hiσ : i < σ.length := by rw [I.len]; exact (List.getElem?_eq_some_iff.mp hi).1
  have cne := I.cne
  have tracked : ∀ {a : Addr} {h' : Heap}, (∃ o, s.heap.get? a = some o ∧ H a = none) → Heap.SameBut a s.heap h' → HOk X.prog X.w H h' := fun {a h'} ha hs b ob e => by
    obtain ⟨_, _, hfree⟩ := ha
    refine (I.hok b ob e).stay (fun c w' hc q => (hs.2 c ?_).trans q) (fun _ q => q) fun _ _ q => q
    rintro rfl
    rcases hc with rfl | hc
    · rw [hfree] at e; cases e
    · rw [hfree] at hc; cases hc
  rcases hx with hk | hk
  · refine wpAny_storeName_local hk hn (fun h' hn' hs => ?_) hcls
    obtain ⟨oL, _, _, hoL, _⟩ := id hn
    refine h _ ⟨I.ok, I.os, I.bare, ⟨fun b o e n hb hx => ?_, fun b o e n hb hx => ?_, I.base.free, fun b o e hx => ?_, I.base.tups, I.base.frzs, I.base.tbls⟩, ⟨_, hn', fun j y v' e1 e2 e3 => ?_⟩, fun y c e => ?_, I.free, I.freeC, fun p hp => ?_, tracked ⟨oL, hoL, I.free⟩ hs, by simpa using I.len⟩ ⟨_, hs, .inl rfl⟩
    · exact (hs.2 b (Nat.ne_of_lt (Nat.lt_of_lt_of_le (Heap.lt_size e) I.ok.above))).trans (I.base.keep b o e n hb hx)
    · obtain ⟨sl, e1⟩ := I.base.slot b o e n hb hx
      exact ⟨sl, (hs.2 b (Nat.ne_of_lt (Nat.lt_of_lt_of_le (Heap.lt_size e) I.ok.above))).trans e1⟩
    · obtain ⟨o', e1⟩ := I.base.there b o e hx
      exact ⟨o', (hs.2 b (Nat.ne_of_lt (Nat.lt_of_lt_of_le (Heap.lt_size e) I.ok.above))).trans e1⟩
    · by_cases hj : j = i
      · subst hj
        rw [hi] at e1; cases e1
        rw [List.getElem?_set_self hiσ] at e2
        cases e2
        exact ⟨u, r, .inl ⟨hk, by simp⟩⟩
      · rw [List.getElem?_set_ne (Ne.symm hj)] at e2
        obtain ⟨u', r', q⟩ := hl j y v' e1 e2 e3
        refine ⟨u', r', ?_⟩
        rcases q with ⟨k, e⟩ | ⟨k, c, e, z⟩
        · refine .inl ⟨k, ?_⟩
          have : y ≠ x := fun e => hj (nodup_ix hN e1 (e ▸ hi))
          simp [this, e]
        · exact .inr ⟨k, c, e, z.sameBut hs (cne y c e)⟩
    · obtain ⟨w', z⟩ := I.cell y c e
      exact ⟨w', z.sameBut hs (cne y c e)⟩
    · obtain ⟨e, n, ne, nf, d⟩ := I.pin p hp
      exact ⟨(hs.2 p.1 ne).trans e, n, ne, nf, d⟩
  · have hfn : X.fn x = true := by
      rcases hf with z | z
      · exact z
      · rw [z] at hk; cases hk
    obtain ⟨c, hc⟩ := I.ok.has x (.inl hk)
    obtain ⟨w', z⟩ := I.cell x c hc
    refine wpAny_storeName_cell I.ok.kind hk hc z (fun h' hc' hs => ?_)
    obtain ⟨oc, hoc, hocd⟩ := id z
    refine h { s with heap := h' } ⟨I.ok, I.os, I.bare, ⟨fun b o e n hb hx => ?_, fun b o e n hb hx => ?_, I.base.free, fun b o e hx => ?_, I.base.tups, I.base.frzs, I.base.tbls⟩, ⟨m, hn.sameBut hs (Ne.symm (cne x c hc)), fun j y v' e1 e2 e3 => ?_⟩, fun y c' e => ?_, I.free, I.freeC, fun p hp => ?_, tracked ⟨oc, hoc, I.freeC x c hc⟩ hs, by simpa using I.len⟩ ⟨c, hs, .inr hc⟩
    · exact (hs.2 b (Nat.ne_of_lt (Nat.lt_of_lt_of_le (Heap.lt_size e) (I.ok.cab x c hfn hc)))).trans (I.base.keep b o e n hb hx)
    · obtain ⟨sl, e1⟩ := I.base.slot b o e n hb hx
      exact ⟨sl, (hs.2 b (Nat.ne_of_lt (Nat.lt_of_lt_of_le (Heap.lt_size e) (I.ok.cab x c hfn hc)))).trans e1⟩
    · obtain ⟨o', e1⟩ := I.base.there b o e hx
      exact ⟨o', (hs.2 b (Nat.ne_of_lt (Nat.lt_of_lt_of_le (Heap.lt_size e) (I.ok.cab x c hfn hc)))).trans e1⟩
    · by_cases hj : j = i
      · subst hj
        rw [hi] at e1; cases e1
        rw [List.getElem?_set_self hiσ] at e2
        cases e2
        exact ⟨u, r, .inr ⟨.inl hk, c, hc, hc'⟩⟩
      · rw [List.getElem?_set_ne (Ne.symm hj)] at e2
        obtain ⟨u', r', q⟩ := hl j y v' e1 e2 e3
        refine ⟨u', r', ?_⟩
        rcases q with q | ⟨k, c', e, z'⟩
        · exact .inl q
        · refine .inr ⟨k, c', e, z'.sameBut hs ?_⟩
          rintro rfl
          exact hj (nodup_ix hN e1 (I.ok.inj _ _ _ e hc ▸ hi))
    · by_cases hcc : c' = c
      · subst hcc; exact ⟨_, hc'⟩
      · obtain ⟨w2, z2⟩ := I.cell y c' e
        exact ⟨w2, z2.sameBut hs hcc⟩
    · obtain ⟨e, n, ne, nf, d⟩ := I.pin p hp
      refine ⟨(hs.2 p.1 ?_).trans e, n, ne, nf, d⟩
      intro q
      rw [q, hoc] at e
      have q' : oc = p.2 := Option.some.inj e
      exact d w' (by rw [← q']; exact hocd)
theorem store_ok {M : Model} {A : Around} {E : Value → Shared → Prop} {i : Nat} {x : Str} {v : V} {u : Value} {Q : Unit → Shared → Prop} (I : Inv X pins σ H s) (hN : X.N.Nodup) (hi : X.N[i]? = some x) (hx : Loc X.env.scope x) (r : RelV v u)
    (h : ∀ s', Inv X pins (σ.set i (some v)) H s' → Q () s') (hf : X.fn x = true ∨ X.env.scope.names.lookup x = some .local := by first | exact .inl rfl | exact .inr rfl | assumption) : wpAny M A (storeName X.env x u) Q E s :=
  store_ok2 I hN hi hx r (fun s' I' _ => h s' I') hf
/-- behind a call or a block, the state as it is -/
theorem Inv.call' {s' : Shared} {ch : List Addr} (I : Inv X pins σ H s) (ho : s'.os = s.os) (u : Un (frs X.stack) ch H H' s.heap s'.heap) (hok : HOk X.prog X.w H' s'.heap) (hg : AllBare s'.gens)
    (hch : ∀ b ∈ ch, (b ∈ X.ex ∨ X.s₀.heap.objs.size ≤ b) ∧ b ≠ X.env.locals ∧ (∀ x c, X.env.cells.lookup x = some c → c ≠ b) ∧ ∀ p ∈ X.pn ++ pins, p.1 ≠ b) : Inv X pins σ H' s' := by
  obtain ⟨h', g', d', t', o'⟩ := s'
  have e : o' = s.os := ho
  subst e
  exact I.call (g' := g') (t' := t') (d' := d') u hok hg hch
end

/-! ### the judgements -/
/-- an exception: its class, its own dict's address (where it has one), the abstract heap behind it -/
abbrev XK := Value → Option Addr → Hp → Prop
abbrev St := List (Option V)
abbrev VK := V → Hp → Prop
/-- an expression's reading; a test's; an argument list's -/
abbrev TE := St → Hp → VK → Prop
abbrev TT := St → Hp → (Bool → Hp → Prop) → Prop
abbrev TA := St → Hp → (List V → Hp → Prop) → Prop
/-- what is wanted behind a statement -/
structure Ends where
  nx : St → Hp → Prop
  rt : VK
  bk : St → Hp → Prop := fun _ _ => False
  ct : St → Hp → Prop := fun _ _ => False
abbrev TS := Ends → St → Hp → Prop

def EP (X : Cx) (pins : List (Addr × Obj)) (σ : St) (Q : VK) (u : Value) (s' : Shared) : Prop := ∃ v H', Inv X pins σ H' s' ∧ RelV v u ∧ Q v H'
def TP (X : Cx) (pins : List (Addr × Obj)) (σ : St) (Q : Bool → Hp → Prop) (b : Bool) (s' : Shared) : Prop := ∃ H', Inv X pins σ H' s' ∧ Q b H'
def AP (X : Cx) (pins : List (Addr × Obj)) (σ : St) (Q : List V → Hp → Prop) (us : List Value) (s' : Shared) : Prop := ∃ vs H', Inv X pins σ H' s' ∧ Vals vs us ∧ Q vs H'
def SP (X : Cx) (pins : List (Addr × Obj)) (D : Ends) (f : Flow) (s' : Shared) : Prop :=
  match f with
  | .next => ∃ σ' H', Inv X pins σ' H' s' ∧ D.nx σ' H'
  | .brk => ∃ σ' H', Inv X pins σ' H' s' ∧ D.bk σ' H'
  | .cont => ∃ σ' H', Inv X pins σ' H' s' ∧ D.ct σ' H'
  | .ret u => ∃ v σ' H', Inv X pins σ' H' s' ∧ RelV v u ∧ D.rt v H'

def PE (X : Cx) (e : Expr) (t : TE) : Prop :=
  ∀ (pins : List (Addr × Obj)) (s : Shared) (σ : St) (H : Hp) (Q : VK), Inv X pins σ H s → t σ H Q → wpAny (model X.prog X.w) X.A (eval e X.env) (EP X pins σ Q) X.xe s
def PT (X : Cx) (e : Expr) (t : TT) : Prop :=
  ∀ (pins : List (Addr × Obj)) (s : Shared) (σ : St) (H : Hp) (Q : Bool → Hp → Prop), Inv X pins σ H s → t σ H Q → wpAny (model X.prog X.w) X.A (isTrue e X.env (eval e X.env)) (TP X pins σ Q) X.xe s
/-- a test whatever its 'whole' is (and, or) -/
def PW (X : Cx) (e : Expr) (t : TT) : Prop :=
  ∀ (whole : Sem Value) (pins : List (Addr × Obj)) (s : Shared) (σ : St) (H : Hp) (Q : Bool → Hp → Prop), Inv X pins σ H s → t σ H Q → wpAny (model X.prog X.w) X.A (isTrue e X.env whole) (TP X pins σ Q) X.xe s
theorem PW.pt {X : Cx} {e : Expr} {t : TT} (h : PW X e t) : PT X e t := h _
/-- an argument list (no star), from the left -/
def PA (X : Cx) (es : List Expr) (t : TA) : Prop :=
  ∀ (pos : Pos) (pins : List (Addr × Obj)) (s : Shared) (σ : St) (H : Hp) (Q : List V → Hp → Prop), Inv X pins σ H s → t σ H Q → wpAny (model X.prog X.w) X.A (spliced (backTo pos (starEach es X.env))) (AP X pins σ Q) X.xe s
def PS (X : Cx) (st : Stmt) (t : TS) : Prop :=
  ∀ (pins : List (Addr × Obj)) (s : Shared) (σ : St) (H : Hp) (D : Ends), Inv X pins σ H s → t D σ H → wpAny (model X.prog X.w) X.A (exec st X.env) (SP X pins D) X.xe s
def PSs (X : Cx) (st : List Stmt) (t : TS) : Prop :=
  ∀ (pins : List (Addr × Obj)) (s : Shared) (σ : St) (H : Hp) (D : Ends), Inv X pins σ H s → t D σ H → wpAny (model X.prog X.w) X.A (execs st X.env) (SP X pins D) X.xe s
/-- weaken the end -/
theorem thn {α : Type} {t : Sem α} {Q Q' : α → Shared → Prop} {M : Model} {A : Around} {E : Value → Shared → Prop} {s : Shared} (h : wpAny M A t Q E s) (hQ : ∀ a s, Q a s → Q' a s) : wpAny M A t Q' E s := wpAny_mono h hQ fun _ _ x => x
end L2

namespace L2
open PySem PySem.Spec PyProof.Rows
section
variable {X : Cx}

/-- two expressions in a row -/
theorem bin {a b : Expr} {ta tb : TE} (ha : PE X a ta) (hb : PE X b tb) {pins : List (Addr × Obj)} {s : Shared} {σ : St} {H : Hp} {R : V → V → Hp → Prop} (I : Inv X pins σ H s) (h : ta σ H fun x H1 => tb σ H1 fun y H2 => R x y H2)
    {α : Type} {Q : α → Shared → Prop} {f : Value → Value → Sem α}
    (hf : ∀ v u s2 x y H2, Inv X pins σ H2 s2 → RelV x v → RelV y u → R x y H2 → wpAny (model X.prog X.w) X.A (f v u) Q X.xe s2) :
    wpAny (model X.prog X.w) X.A (eval a X.env) (fun v s₁ => wpAny (model X.prog X.w) X.A (eval b X.env) (fun u s₂ => wpAny (model X.prog X.w) X.A (f v u) Q X.xe s₂) X.xe s₁) X.xe s := by
  refine thn (ha pins s σ H _ I h) fun v s1 ⟨x, H1, I1, r1, q1⟩ => ?_
  refine thn (hb pins s1 σ H1 _ I1 q1) fun u s2 ⟨y, H2, I2, r2, q2⟩ => ?_
  exact hf v u s2 x y H2 I2 r1 r2 q2

/-! ### names and constants -/
inductive tVar (i : Nat) (σ : St) (H : Hp) (Q : VK) : Prop
  | mk (v : _) (_ : σ[i]? = some (some v)) (_ : Q v H) : tVar i σ H Q
def tC (v : V) : TE := fun _ H Q => Q v H
theorem pe_var {i : Nat} {x : Str} {pos : Pos} (hN : X.N[i]? = some x) (hv : Vis X.env.scope x) (hd : (x == ("__debug__" : Str)) = false := by decide) (hcd : (x == ("__classdict__" : Str)) = false := by decide) : PE X (.Name x pos) (tVar i) := by
  intro pins s σ H Q I h
  obtain ⟨v, e, h⟩ := h
  obtain ⟨m, hn, hl⟩ := I.loc
  obtain ⟨u, r, l⟩ := hl i x v hN e hv
  have fin : EP X pins σ Q u s := ⟨v, H, I, r, h⟩
  rcases l with ⟨hk, hm⟩ | ⟨hk, c, hc, hcell⟩
  · exact wpAny_Name (wpAny_loadName_local I.ok.kind hk hn hm fin) hd
  · rcases hk with hk | hk
    · exact wpAny_Name (wpAny_loadName_cell I.ok.kind hk hc hcell fin) hd
    · exact wpAny_Name (wpAny_loadName_free I.ok.kind hk hc hcell fin hcd) hd
theorem pe_int {i j pos} : PE X (.Constant (.int i) j pos) (tC (.int i)) := fun _ _ _ H _ I h => wpAny_Constant_int ⟨.int i, H, I.tok _, ⟨_, rfl⟩, h⟩
theorem pe_bl {b j pos} : PE X (.Constant (.bool b) j pos) (tC (.bl b)) := fun _ _ _ H _ I h => Constant_bool ⟨.bl b, H, I, rfl, h⟩
theorem pe_non {j pos} : PE X (.Constant .none j pos) (tC .non) := fun _ _ _ H _ I h => Constant_none ⟨.non, H, I, rfl, h⟩
theorem pe_str {x j pos} : PE X (.Constant (.str x) j pos) (tC (.str x)) := fun _ _ _ H _ I h => Calls.Constant_str ⟨.str x, H, I.tok _, ⟨_, rfl⟩, h⟩

/-- a global name of the def -/
def Gl (X : Cx) (x : Str) : Prop := X.env.kindOf x = some .globalImplicit
theorem ld_glob {E : Value → Shared → Prop} {pins : List (Addr × Obj)} {s : Shared} {σ : St} {H : Hp} {x : Str} {u : Value} {pos : Pos} {Q : Value → Shared → Prop} (I : Inv X pins σ H s) (hg : Gl X x) (hm : X.mg x = some u) (h : Q u s)
    (hd : (x == ("__debug__" : Str)) = false := by decide) : wpAny (model X.prog X.w) X.A (eval (.Name x pos) X.env) Q E s :=
  Calls.Name_function_global I.ok.kind hg (Calls.loadGlobal_global (by rw [I.ok.glob]; exact I.mod.glob.keeps I.bk) hm h) hd
theorem ld_blt {E : Value → Shared → Prop} {pins : List (Addr × Obj)} {s : Shared} {σ : St} {H : Hp} {x : Str} {u : Value} {pos : Pos} {Q : Value → Shared → Prop} (I : Inv X pins σ H s) (hg : Gl X x) (hm : X.mg x = none) (hv : bootBuiltins x = some u) (h : Q u s)
    (hn : x ≠ "__name__" := by decide) (hd : (x == ("__debug__" : Str)) = false := by decide) : wpAny (model X.prog X.w) X.A (eval (.Name x pos) X.env) Q E s := by
  obtain ⟨mb, h1, h2⟩ := I.mod.blt
  exact Calls.Name_function_global I.ok.kind hg (Calls.loadGlobal_builtin (by rw [I.ok.glob]; exact I.mod.glob.keeps I.bk) hm (by rw [I.ok.blt]; exact h1.keeps I.bk) ((h2 x hn).trans hv) h) hd
/-- a module's constant, a class, a function, as a value -/
theorem pe_glob {x : Str} {v : V} {u : Value} {pos : Pos} (hg : Gl X x) (hm : X.mg x = some u) (r : RelV v u) (hd : (x == ("__debug__" : Str)) = false := by decide) : PE X (.Name x pos) (tC v) :=
  fun _ _ _ H _ I h => ld_glob I hg hm ⟨v, H, I, r, h⟩ hd
theorem pe_bltn {x : Str} {v : V} {u : Value} {pos : Pos} (hg : Gl X x) (hm : X.mg x = none) (hv : bootBuiltins x = some u) (r : RelV v u) (hn : x ≠ "__name__" := by decide) (hd : (x == ("__debug__" : Str)) = false := by decide) : PE X (.Name x pos) (tC v) :=
  fun _ _ _ H _ I h => ld_blt I hg hm hv ⟨v, H, I, r, h⟩ hn hd

/-! ### arithmetic -/
variable {a b : Expr} {ta tb : TE} {pos : Pos}
/-! ### comparisons -/
def PC (X : Cx) (op : CmpOp) (a b : Expr) (t : TE) : Prop :=
  ∀ (pins : List (Addr × Obj)) (s : Shared) (σ : St) (H : Hp) (Q : VK), Inv X pins σ H s → t σ H Q →
    wpAny (model X.prog X.w) X.A (eval a X.env) (fun v s₁ => wpAny (model X.prog X.w) X.A (eval b X.env) (fun u s₂ => wpAny (model X.prog X.w) X.A (compareOp op v u) (EP X pins σ Q) X.xe s₂) X.xe s₁) X.xe s
theorem nobehind (b : Expr) {op : CmpOp} (h : op ≠ .In) (h2 : op ≠ .NotIn) : behindInMarks op b = false := by
  have e1 : (op == CmpOp.In) = false := by cases op <;> first | rfl | exact absurd rfl h
  have e2 : (op == CmpOp.NotIn) = false := by cases op <;> first | rfl | exact absurd rfl h2
  cases b <;> simp [behindInMarks, e1, e2]
/-- is None -/
def tIsN (ta : TE) : TE := fun σ H Q => ta σ H fun x H1 => Q (.bl (decide (x = .non))) H1
def tNotN (ta : TE) : TE := fun σ H Q => ta σ H fun x H1 => Q (.bl (!decide (x = .non))) H1
theorem RelV.none_iff {x : V} {v : Value} (r : RelV x v) : (v == Value.none) = decide (x = .non) := by
  cases x with
  | non => cases r; rfl
  | bl _ => cases r; rfl
  | int _ => obtain ⟨t, rfl⟩ := r; rfl
  | str _ => obtain ⟨t, rfl⟩ := r; rfl
  | byt _ => obtain ⟨t, rfl⟩ := r; rfl
  | flt _ => obtain ⟨t, rfl⟩ := r; rfl
  | ref _ => cases r; rfl
  | ty _ => cases r; rfl
theorem pc_isN {j pos'} (ha : PE X a ta) : PC X .Is a (.Constant .none j pos') (tIsN ta) := by
  intro pins s σ H Q I h
  refine thn (ha pins s σ H _ I h) fun v s1 ⟨x, H1, I1, r1, q1⟩ => ?_
  exact Constant_none (is_none_gen ⟨.bl _, H1, I1, by rw [r1.none_iff]; rfl, q1⟩)
theorem pc_notN {j pos'} (ha : PE X a ta) : PC X .IsNot a (.Constant .none j pos') (tNotN ta) := by
  intro pins s σ H Q I h
  refine thn (ha pins s σ H _ I h) fun v s1 ⟨x, H1, I1, r1, q1⟩ => ?_
  exact Constant_none (isnot_none_gen ⟨.bl _, H1, I1, by rw [r1.none_iff]; rfl, q1⟩)
/-- a comparison as a value, as a test -/
inductive isBl (x : V) (H : Hp) (Q : Bool → Hp → Prop) : Prop
  | mk (c : Bool) (_ : x = .bl c) (_ : Q c H) : isBl x H Q
def tB (t : TE) : TT := fun σ H Q => t σ H fun x H1 => isBl x H1 Q
theorem pt_cmp {op : CmpOp} {t : TE} (h : PC X op a b t) (h1 : behindInMarks op b = false := by first | exact nobehind _ (by decide) (by decide) | rfl) : PT X (.Compare a [op] [b] pos) (tB t) := by
  intro pins s σ H Q I hw
  refine wpAny_isTrue_Compare1 (thn (h pins s σ H _ I hw) fun v s1 h1 => thn h1 fun u s2 h2 => thn h2 fun c s3 ⟨x, H1, I1, r1, q1⟩ => ?_) h1
  obtain ⟨d, rfl, q⟩ := q1
  cases r1
  exact wpAny_truthy_bool ⟨H1, I1, q⟩
/-- an expression whose value is a bool, as a test -/
theorem pt_val {e : Expr} {t : TE} (h : PE X e t) (he : ∀ whole, isTrue e X.env whole = (do let v ← whole; standAt e.pos; holding [v] (truthy v)) := by intro _; rfl) : PT X e (tB t) := by
  intro pins s σ H Q I hw
  refine isTrue_plain (thn (h pins s σ H _ I hw) fun v s1 ⟨x, H1, I1, r1, q1⟩ => ?_) (he _)
  obtain ⟨d, rfl, q⟩ := q1
  cases r1
  exact wpAny_truthy_bool ⟨H1, I1, q⟩

/-! ### and, or, not -/
variable {tA tB' : TT} {rest : List Expr}
def tAnd (t u : TT) : TT := fun σ H Q => t σ H fun c H1 => if c = true then u σ H1 Q else Q false H1
def tOr (t u : TT) : TT := fun σ H Q => t σ H fun c H1 => if c = true then Q true H1 else u σ H1 Q
def tNot (t : TT) : TT := fun σ H Q => t σ H fun c H1 => Q (!c) H1
theorem pw_and1 (ha : PT X a tA) : PW X (.BoolOp .And [a] pos) tA := by
  intro wh pins s σ H Q I h
  refine isTrue_and (thn (ha pins s σ H Q I h) fun c s1 e => ?_)
  cases c with
  | true => exact isTrue_and_nil e
  | false => exact e
theorem pw_or1 (ha : PT X a tA) : PW X (.BoolOp .Or [a] pos) tA := by
  intro wh pins s σ H Q I h
  refine isTrue_or (thn (ha pins s σ H Q I h) fun c s1 e => ?_)
  cases c with
  | false => exact isTrue_or_nil e
  | true => exact e
theorem pw_and (ha : PT X a tA) (hb : PW X (.BoolOp .And (b :: rest) pos) tB') : PW X (.BoolOp .And (a :: b :: rest) pos) (tAnd tA tB') := by
  intro wh pins s σ H Q I h
  refine isTrue_and (thn (ha pins s σ H _ I h) fun c s1 ⟨H1, I1, q1⟩ => ?_)
  cases c with
  | true => exact hb wh pins s1 σ H1 Q I1 q1
  | false => exact ⟨H1, I1, q1⟩
theorem pw_or (ha : PT X a tA) (hb : PW X (.BoolOp .Or (b :: rest) pos) tB') : PW X (.BoolOp .Or (a :: b :: rest) pos) (tOr tA tB') := by
  intro wh pins s σ H Q I h
  refine isTrue_or (thn (ha pins s σ H _ I h) fun c s1 ⟨H1, I1, q1⟩ => ?_)
  cases c with
  | true => exact ⟨H1, I1, q1⟩
  | false => exact hb wh pins s1 σ H1 Q I1 q1
theorem pt_not (ha : PT X a tA) : PT X (.UnaryOp .Not a pos) (tNot tA) := by
  intro pins s σ H Q I h
  exact isTrue_not (ha pins s σ H (fun c H1 => Q (!c) H1) I h)
/-- .. as values (bools) -/
def tAndV (ta tb : TE) : TE := fun σ H Q => ta σ H fun x H1 => ∃ c, x = .bl c ∧ if c = true then tb σ H1 Q else Q (.bl false) H1
def tOrV (ta tb : TE) : TE := fun σ H Q => ta σ H fun x H1 => ∃ c, x = .bl c ∧ if c = true then Q (.bl true) H1 else tb σ H1 Q
def tNotV (ta : TE) : TE := fun σ H Q => ta σ H fun x H1 => ∃ c, x = .bl c ∧ Q (.bl (!c)) H1
theorem pe_one {op} {t : TE} (h : PE X a t) : PE X (.BoolOp op [a] pos) t := fun pins s σ H Q I hw => BoolOp_one (h pins s σ H Q I hw)
theorem pe_and (ha : PE X a ta) (hb : PE X (.BoolOp .And (b :: rest) pos) tb) : PE X (.BoolOp .And (a :: b :: rest) pos) (tAndV ta tb) := by
  intro pins s σ H Q I h
  refine BoolOp_and (thn (ha pins s σ H _ I h) fun v s1 ⟨x, H1, I1, r1, q1⟩ => ?_)
  obtain ⟨c, rfl, q1⟩ := q1
  cases r1
  refine wpAny_truthy_bool ?_
  cases c with
  | true => exact hb pins s1 σ H1 Q I1 q1
  | false => exact ⟨.bl false, H1, I1, rfl, q1⟩
theorem pe_or (ha : PE X a ta) (hb : PE X (.BoolOp .Or (b :: rest) pos) tb) : PE X (.BoolOp .Or (a :: b :: rest) pos) (tOrV ta tb) := by
  intro pins s σ H Q I h
  refine BoolOp_or (thn (ha pins s σ H _ I h) fun v s1 ⟨x, H1, I1, r1, q1⟩ => ?_)
  obtain ⟨c, rfl, q1⟩ := q1
  cases r1
  refine wpAny_truthy_bool ?_
  cases c with
  | false => exact hb pins s1 σ H1 Q I1 q1
  | true => exact ⟨.bl true, H1, I1, rfl, q1⟩
theorem pe_not (ha : PE X a ta) : PE X (.UnaryOp .Not a pos) (tNotV ta) := by
  intro pins s σ H Q I h
  refine UnaryOp_ (thn (ha pins s σ H _ I h) fun v s1 ⟨x, H1, I1, r1, q1⟩ => ?_)
  obtain ⟨c, rfl, q1⟩ := q1
  cases r1
  exact not_of (wpAny_truthy_bool ⟨.bl (!c), H1, I1, rfl, q1⟩)
/-- a if t else b -/
def tIf (t : TT) (ta tb : TE) : TE := fun σ H Q => t σ H fun c H1 => if c = true then ta σ H1 Q else tb σ H1 Q
theorem pe_ifExp {c : Expr} (hc : PT X c tA) (ha : PE X a ta) (hb : PE X b tb) : PE X (.IfExp c a b pos) (tIf tA ta tb) := by
  intro pins s σ H Q I h
  refine wpAny_IfExp (thn (hc pins s σ H _ I h) fun d s1 ⟨H1, I1, q1⟩ => ?_)
  cases d with
  | true => exact ha pins s1 σ H1 Q I1 q1
  | false => exact hb pins s1 σ H1 Q I1 q1
end
end L2

namespace L2
open PySem PySem.Spec PyProof.Rows

/-! ### a list, a tuple that is read: tracked, frozen, or an object of the module -/
def SqL (K : PySem.W.Frag) (H : Hp) (a : Addr) (xs : List V) : Prop :=
  Rd H a (.lst xs) ∨
    ∃ (o : Obj) (its : Array Value) (n : Nat), K.lookup a = some o ∧ o.cls = .type "list" ∧ o.dict = none ∧ o.data = .seq its n ∧ its.size ≤ sizeLine ∧ Vals xs its.toList
def SqT (K : PySem.W.Frag) (H : Hp) (a : Addr) (xs : List V) : Prop :=
  Rd H a (.tup xs) ∨
    ∃ (o : Obj) (its : Array Value) (n : Nat), K.lookup a = some o ∧ o.cls = .type "tuple" ∧ o.data = .seq its n ∧ its.size ≤ sizeLine ∧ Vals xs its.toList
def absV : Value → Option V
  | .none => some .non
  | .bool b => some (.bl b)
  | .int i _ => some (.int i)
  | .str x _ => some (.str x)
  | .bytes b _ => some (.byt b)
  | .float b _ => some (.flt b)
  | .ref a => some (.ref a)
  | .type n => some (.ty n)
  | _ => none
theorem RelV.abs {x : V} {u : Value} (r : RelV x u) : absV u = some x := by
  cases x with
  | non => cases r; rfl
  | bl _ => cases r; rfl
  | int _ => obtain ⟨t, rfl⟩ := r; rfl
  | str _ => obtain ⟨t, rfl⟩ := r; rfl
  | byt _ => obtain ⟨t, rfl⟩ := r; rfl
  | flt _ => obtain ⟨t, rfl⟩ := r; rfl
  | ref _ => cases r; rfl
  | ty _ => cases r; rfl
theorem RelV.inj {x y : V} {u : Value} (r : RelV x u) (q : RelV y u) : x = y := Option.some.inj (r.abs.symm.trans q.abs)
theorem Vals.inj : ∀ {xs ys : List V} {us : List Value}, Vals xs us → Vals ys us → xs = ys
  | _, _, _, .nil, .nil => rfl
  | _, _, _, .cons r t, .cons r' t' => by rw [r.inj r', Vals.inj t t']
section
variable {X : Cx} {pins : List (Addr × Obj)} {σ : St} {H : Hp} {s : Shared} {a : Addr} {xs ys : List V}
theorem SqL.of {K : PySem.W.Frag} (h : H a = some (.lst xs)) : SqL K H a xs := .inl (.inl h)
theorem SqT.of {K : PySem.W.Frag} (h : H a = some (.tup xs)) : SqT K H a xs := .inl (.inl h)
theorem Inv.list (I : Inv X pins σ H s) (h : SqL X.K H a xs) : ∃ its : List Value, Vals xs its ∧ PlainL s.heap a its.toArray ∧ xs.length ≤ sizeLine := by
  rcases h with h | ⟨o, its, n, hk, hc, hd, hs, hz, r⟩
  · obtain ⟨z, its, n, r, e⟩ := h.ok I.hok
    exact ⟨its, r, ⟨_, n, e, rfl, rfl, rfl⟩, z⟩
  · refine ⟨its.toList, r, ⟨o, n, I.kIn a o hk, hc, hd, by simpa using hs⟩, ?_⟩
    have e := r.length
    simp only [Array.length_toList] at e
    omega
theorem Inv.tuple (I : Inv X pins σ H s) (h : SqT X.K H a xs) : ∃ its : List Value, Vals xs its ∧ IsTup s.heap a its.toArray ∧ xs.length ≤ sizeLine := by
  rcases h with h | ⟨o, its, n, hk, hc, hs, hz, r⟩
  · obtain ⟨z, its, r, p⟩ := h.ok I.hok
    exact ⟨its, r, p, z⟩
  · refine ⟨its.toList, r, ⟨o, I.kIn a o hk, hc, n, by simpa using hs⟩, ?_⟩
    have e := r.length
    simp only [Array.length_toList] at e
    omega
theorem Inv.list_inj (I : Inv X pins σ H s) (h : SqL X.K H a xs) (h' : SqL X.K H a ys) : xs = ys := by
  obtain ⟨its, r, ⟨o, n, e, _, _, d⟩, _⟩ := I.list h
  obtain ⟨its', r', ⟨o', n', e', _, _, d'⟩, _⟩ := I.list h'
  rw [e] at e'; cases e'
  rw [d] at d'
  injection d' with d1 _
  have : its = its' := by simpa using congrArg Array.toList d1
  subst this
  exact r.inj r'
end

/-! ### another wish about exceptions -/
abbrev Cx.wish (X : Cx) (E : Value → Shared → Prop) : Cx := { X with xe := E }
section
variable {X : Cx} {pins : List (Addr × Obj)} {σ : St} {H : Hp} {s : Shared} {E : Value → Shared → Prop}
end

/-! ### blocks and small statements -/
section
variable {X : Cx} {st : Stmt} {rest : List Stmt} {t u : TS} {e : Expr} {te : TE} {pos : Pos}
def tNext : TS := fun D σ H => D.nx σ H
def tSeq (t u : TS) : TS := fun D σ H => t { D with nx := u D } σ H
theorem pss_nil : PSs X [] tNext := fun _ _ σ H _ I h => wpAny_execs_nil ⟨σ, H, I, h⟩
theorem pss_cons (h1 : PS X st t) (h2 : PSs X rest u) : PSs X (st :: rest) (tSeq t u) := by
  intro pins s σ H D I h
  refine wpAny_execs_cons (thn (h1 pins s σ H { D with nx := u D } I h) fun f s1 q => ?_)
  cases f with
  | next =>
    obtain ⟨σ', H', I', q⟩ := q
    exact h2 pins s1 σ' H' D I' q
  | ret v => exact q
  | brk => exact q
  | cont => exact q
theorem pss_one (h1 : PS X st t) : PSs X [st] t := by
  intro pins s σ H D I h
  refine wpAny_execs_cons (thn (h1 pins s σ H D I h) fun f s1 q => ?_)
  cases f with
  | next => exact wpAny_execs_nil q
  | ret v => exact q
  | brk => exact q
  | cont => exact q
/-- in a def's body nothing is shown -/
theorem Inv.quiet {pins : List (Addr × Obj)} {σ : St} {H : Hp} {s : Shared} (I : Inv X pins σ H s) : interactive X.env = false := by simp [interactive, I.ok.kind]
/-- an expression whose value is dropped -/
def tDrop (te : TE) : TS := fun D σ H => te σ H fun _ H1 => D.nx σ H1
theorem ps_expr (he : PE X e te) (hs : swapsWith e none pos.line X.env = pure false := by rfl) : PS X (.Expr e pos) (tDrop te) := by
  intro pins s σ H D I h
  exact wpAny_Expr_any (thn (he pins s σ H _ I h) fun v s1 ⟨x, H1, I1, r1, q1⟩ => ⟨σ, H1, I1, q1⟩) I.quiet hs
def tRet (te : TE) : TS := fun D σ H => te σ H D.rt
theorem ps_ret (he : PE X e te) : PS X (.Return (some e) pos) (tRet te) := by
  intro pins s σ H D I h
  exact wpAny_Return_some (thn (he pins s σ H _ I h) fun v s1 ⟨x, H1, I1, r1, q1⟩ => ⟨x, σ, H1, I1, r1, q1⟩)
def tIfS (c : TT) (t u : TS) : TS := fun D σ H => c σ H fun b H1 => if b = true then t D σ H1 else u D σ H1
theorem ps_if {c : Expr} {a b : List Stmt} {tc : TT} (hc : PT X c tc) (ha : PSs X a t) (hb : PSs X b u) : PS X (.If c a b pos) (tIfS tc t u) := by
  intro pins s σ H D I h
  refine wpAny_If (thn (hc pins s σ H _ I h) fun d s1 ⟨H1, I1, q1⟩ => ?_)
  cases d with
  | true => exact ha pins s1 σ H1 D I1 q1
  | false => exact hb pins s1 σ H1 D I1 q1
end

/-! ### targets -/
abbrev TG := V → St → Hp → (St → Hp → Prop) → Prop
abbrev TGs := List V → St → Hp → (St → Hp → Prop) → Prop
def PG (X : Cx) (target : Expr) (t : TG) : Prop :=
  ∀ (pins : List (Addr × Obj)) (s : Shared) (σ : St) (H : Hp) (v : V) (u : Value) (Q : St → Hp → Prop), Inv X pins σ H s → RelV v u → t v σ H Q →
    wpAny (model X.prog X.w) X.A (assign target X.env u) (fun _ s' => ∃ σ' H', Inv X pins σ' H' s' ∧ Q σ' H') X.xe s
/-- several targets, one after another -/
def PGs (X : Cx) (ts : List Expr) (t : TGs) : Prop :=
  ∀ (pins : List (Addr × Obj)) (s : Shared) (σ : St) (H : Hp) (vs : List V) (us : List Value) (Q : St → Hp → Prop), Inv X pins σ H s → Vals vs us → t vs σ H Q →
    wpAny (model X.prog X.w) X.A (assignInOrder ((assignEach ts X.env).map (·.2)) us) (fun _ s' => ∃ σ' H', Inv X pins σ' H' s' ∧ Q σ' H') X.xe s
/-- o[i] = v, by values -/
abbrev TSet := V → V → V → Hp → (Hp → Prop) → Prop
def PSet (X : Cx) (t : TSet) : Prop :=
  ∀ (pins : List (Addr × Obj)) (s : Shared) (σ : St) (H : Hp) (o i v : V) (ov iv u : Value) (Q : Hp → Prop), Inv X pins σ H s → RelV o ov → RelV i iv → RelV v u → t o i v H Q →
    wpAny (model X.prog X.w) X.A (setItem ov iv u) (fun _ s' => ∃ H', Inv X pins σ H' s' ∧ Q H') X.xe s
section
variable {X : Cx} {pos : Pos}
def gName (i : Nat) : TG := fun v σ H Q => Q (σ.set i (some v)) H
theorem pg_name {i : Nat} {x : Str} (hN : X.N.Nodup) (hi : X.N[i]? = some x) (hx : Loc X.env.scope x) (hf : X.fn x = true ∨ X.env.scope.names.lookup x = some .local := by first | exact .inl rfl | exact .inr rfl | assumption) : PG X (.Name x pos) (gName i) := by
  intro pins s σ H v u Q I r h
  exact wpAny_assign_Name (store_ok I hN hi hx r (fun s' I' => ⟨_, H, I', h⟩) hf)
def gNil : TGs := fun vs σ H Q => vs = [] ∧ Q σ H
def gCons (t : TG) (u : TGs) : TGs := fun vs σ H Q => ∃ v r, vs = v :: r ∧ t v σ H fun σ' H' => u r σ' H' Q
theorem pgs_nil : PGs X [] gNil := by
  intro pins s σ H vs us Q I r h
  obtain ⟨e, h⟩ := h
  subst e
  cases r
  exact assignInOrder_nil ⟨σ, H, I, h⟩
theorem pgs_cons {e : Expr} {es : List Expr} {t : TG} {u : TGs} (h1 : PG X e t) (h2 : PGs X es u)
    (hs : (assignEach (e :: es) X.env).map (·.2) = assign e X.env :: (assignEach es X.env).map (·.2) := by rfl) : PGs X (e :: es) (gCons t u) := by
  intro pins s σ H vs us Q I r h
  obtain ⟨v, vr, e1, h⟩ := h
  subst e1
  cases r with
  | cons r rr =>
    rw [hs]
    refine assignInOrder_cons (thn (h1 pins s σ H _ _ _ I r h) fun _ s1 ⟨σ1, H1, I1, q1⟩ => ?_)
    exact h2 pins s1 σ1 H1 _ _ Q I1 rr q1
/-- (a, b, ..) = a tuple of that length -/
inductive gTup (K : PySem.W.Frag) (n : Nat) (t : TGs) (v : V) (σ : St) (H : Hp) (Q : St → Hp → Prop) : Prop
  | mk (a : _) (xs : _) (_ : v = .ref a) (_ : SqT K H a xs) (_ : xs.length = n) (_ : t xs σ H Q) : gTup K n t v σ H Q
theorem pg_tup {es : List Expr} {k : Nat} {t : TGs} {n : Nat} (hc : X.calm = true) (h : PGs X es t)
    (hn : (assignEach es X.env).length = n := by rfl) (hst : (assignEach es X.env).findIdx? (·.1) = none := by rfl) : PG X (.Tuple es k pos) (gTup X.K n t) := by
  intro pins s σ H v u Q I r hw
  obtain ⟨a, xs, e1, hq, hl, hw⟩ := hw
  subst e1
  cases r
  obtain ⟨its, rv, ht, hz⟩ := I.tuple hq
  refine assign_Tuple_tuple (I.ok.hd hc) ht (by simp [hn, ← hl, rv.length]) hst fun h' hx => ?_
  have I1 : Inv X pins σ H { s with heap := h' } := I.kept (t' := s.toks) fun b o e => hx b o (Nat.ne_of_lt (Heap.lt_size e)) e
  exact h pins _ σ H xs _ Q I1 (by simpa using rv) hw
/-- o[i] = .. -/
def gSub (to ti : TE) (t : TSet) : TG := fun v σ H Q => to σ H fun o H1 => ti σ H1 fun i H2 => t o i v H2 fun H3 => Q σ H3
theorem pg_sub {o i : Expr} {to ti : TE} {t : TSet} (ho : PE X o to) (hi : PE X i ti) (hs : PSet X t)
    (ha : ∀ v, assign (.Subscript o i pos) X.env v = (do
      let ov ← holding [v] (eval o X.env)
      let iv ← holding [v, ov] (eval i X.env)
      standAt pos
      holding [v, ov, iv] (setItem ov iv v)
      release [v, ov, iv] []) := by intro _; rfl) : PG X (.Subscript o i pos) (gSub to ti t) := by
  intro pins s σ H v u Q I r h
  rw [ha]
  refine wpAny_bind (wpAny_holding (thn (ho pins s σ H _ I h) fun ov s1 ⟨x, H1, I1, r1, q1⟩ => ?_))
  refine wpAny_bind (wpAny_holding (thn (hi pins s1 σ H1 _ I1 q1) fun iv s2 ⟨y, H2, I2, r2, q2⟩ => ?_))
  refine wpAny_bind (wpAny_standAt (wpAny_bind (wpAny_holding (thn (hs pins s2 σ H2 x y v ov iv u _ I2 r1 r2 r q2) fun _ s3 ⟨H3, I3, q3⟩ => ?_))))
  exact wpAny_release ⟨σ, H3, I3, q3⟩
/-- target = value -/
def tAsg (te : TE) (g : TG) : TS := fun D σ H => te σ H fun x H1 => g x σ H1 D.nx
theorem ps_asg {tg e : Expr} {te : TE} {g : TG} (he : PE X e te) (hg : PG X tg g) (hs : swapsWithSole [tg] e pos.line X.env = pure false := by rfl) (hw : swappedStores [tg] e X.env = pure none := by rfl)
    (h1 : (assignEach [tg] X.env).map (·.2) = [assign tg X.env] := by rfl) : PS X (.Assign [tg] e pos) (tAsg te g) := by
  intro pins s σ H D I h
  refine wpAny_Assign_stores (thn (he pins s σ H _ I h) fun v s1 ⟨x, H1, I1, r1, q1⟩ => ?_) hs hw
  rw [h1]
  exact thn (hg pins s1 σ H1 x v _ I1 r1 q1) fun _ s2 q => q
/-- name = value -/
theorem ps_set {i : Nat} {x : Str} {e : Expr} {te : TE} {pos' : Pos} (hN : X.N.Nodup) (hi : X.N[i]? = some x) (hx : Loc X.env.scope x) (he : PE X e te) (hs : swapsWith e (some (.Name x pos')) pos.line X.env = pure false := by rfl) (hf : X.fn x = true ∨ X.env.scope.names.lookup x = some .local := by first | exact .inl rfl | exact .inr rfl | assumption) :
    PS X (.Assign [.Name x pos'] e pos) (tAsg te (gName i)) := by
  intro pins s σ H D I h
  refine wpAny_Assign_Name (thn (he pins s σ H _ I h) fun v s1 ⟨y, H1, I1, r1, q1⟩ => ?_) hs
  exact store_ok I1 hN hi hx r1 (fun s2 I2 => ⟨_, H1, I2, q1⟩) hf
end

/-! ### while -/
section
variable {X : Cx} {pos : Pos}
end

/-! ### what a loop or a comprehension walks -/
/-- at turn i: it yields x (the heap may grow), or it stops -/
structure It where
  go : Nat → Hp → Prop
  yld : Nat → Hp → V → Hp → Prop
  stop : Nat → Hp → Prop
/-- the iterator's own objects may turn: they are not the frame's, not pinned, younger than the entry (or a comprehension's own) -/
def FpOk (X : Cx) (pins : List (Addr × Obj)) (H : Hp) (b : Addr) : Prop :=
  H b = none ∧ b ≠ X.env.locals ∧ b ∉ X.fs ∧ (b ∈ X.ex ∨ X.s₀.heap.objs.size ≤ b) ∧ (∀ x c, X.env.cells.lookup x = some c → c ≠ b) ∧ ∀ p ∈ X.pn ++ pins, p.1 ≠ b
theorem Inv.fpOk {X : Cx} {pins : List (Addr × Obj)} {σ : St} {H H' : Hp} {s : Shared} {b : Addr} (I : Inv X pins σ H s) (hb : s.heap.objs.size ≤ b) (hn : H' b = none) : FpOk X pins H' b := by
  refine ⟨hn, Nat.ne_of_gt (Nat.lt_of_lt_of_le I.lt hb), I.nofs hb, .inr (Nat.le_trans I.sz hb), fun x c e z => ?_, fun p hp z => ?_⟩
  · obtain ⟨v, q⟩ := I.cell x c e
    exact absurd (Nat.lt_of_lt_of_le q.lt (by rw [z]; exact hb)) (Nat.lt_irrefl _)
  · exact absurd (Nat.lt_of_lt_of_le (Heap.lt_size (I.pin p hp).1) (by rw [z]; exact hb)) (Nat.lt_irrefl _)
structure Turn (P : Program) (w : World) (K : PySem.W.Frag) (tg : Expr) (J : It) (fp : List Addr) (it : Addr) (tn : Nat → Heap → Prop) : Prop where
  mem : it ∈ fp
  obj : ∀ i h, tn i h → ∀ b ∈ fp, ∃ o, h.get? b = some o ∧ ∀ v, o.data ≠ .cell v
  keep : ∀ i h h', tn i h → (∀ b ∈ fp, ∀ o, h.get? b = some o → h'.get? b = some o) → tn i h'
  item : ∀ (X : Cx), X.prog = P → X.w = w → X.K = K → X.calm = true → ∀ (i : Nat) (pins : List (Addr × Obj)) (s : Shared) (σ : St) (H : Hp) (E : Value → Shared → Prop), Inv X pins σ H s → (∀ b ∈ fp, FpOk X pins H b) → tn i s.heap → J.go i H →
    wpAny (model P w) X.A (pyNext (.ref it)) (fun r s1 => ∃ u, r = some u ∧
      wpAny (model P w) X.A (letOwnedTupleGo tg (.ref it) u) (fun _ s2 => ∃ x H', Inv X pins σ H' s2 ∧ RelV x u ∧ J.yld i H x H' ∧ tn (i + 1) s2.heap ∧ ∀ b ∈ fp, H' b = none) E s1) E s
  done : ∀ (X : Cx), X.prog = P → X.w = w → X.K = K → X.calm = true → ∀ (i : Nat) (pins : List (Addr × Obj)) (s : Shared) (σ : St) (H : Hp) (E : Value → Shared → Prop), Inv X pins σ H s → (∀ b ∈ fp, FpOk X pins H b) → tn i s.heap → J.stop i H →
    wpAny (model P w) X.A (pyNext (.ref it)) (fun r s1 => r = none ∧ Inv X pins σ H s1) E s
  self : ∀ (A : Around) (i : Nat) (s : Shared) (Q : Value → Shared → Prop) (E : Value → Shared → Prop), tn i s.heap → Q (.ref it) s → wpAny (model P w) A (pyIter (.ref it)) Q E s
abbrev TI := St → Hp → (It → Hp → Prop) → Prop
/-- an iterator has come -/
def PIE (X : Cx) (pins : List (Addr × Obj)) (σ : St) (tg : Expr) (R : It → Hp → Prop) (itv : Value) (s2 : Shared) : Prop :=
  ∃ (it : Addr) (fp : List Addr) (tn : Nat → Heap → Prop) (J : It) (H' : Hp), itv = .ref it ∧ Inv X pins σ H' s2 ∧ Turn X.prog X.w X.K tg J fp it tn ∧ tn 0 s2.heap ∧ (∀ b ∈ fp, FpOk X pins H' b) ∧ R J H'
def PI (X : Cx) (tg iter : Expr) (wi : TI) : Prop :=
  ∀ (pins : List (Addr × Obj)) (s : Shared) (σ : St) (H : Hp) (R : It → Hp → Prop), Inv X pins σ H s → wi σ H R →
    wpAny (model X.prog X.w) X.A (eval iter X.env) (fun v s1 => wpAny (model X.prog X.w) X.A (pyIter v) (PIE X pins σ tg R) X.xe s1) X.xe s

/-- the step ahead of the store is nothing for an iterator that keeps no tuple -/
theorem go_of {M : Model} {A : Around} {E : Value → Shared → Prop} {s : Shared} {tg : Expr} {it : Addr} {u : Value} {o : Obj} {n : String} {vs : Array Value} {Q : Unit → Shared → Prop} (ho : s.heap.get? it = some o) (hc : o.cls = .type n) (hd : o.data = .fields vs)
    (hn : ["enumerate", "zip", "dict_itemiterator", "dict_reverseitemiterator", "odict_iterator", "itertools.zip_longest", "itertools.pairwise"].contains n = false) (hQ : Q () s) : wpAny M A (letOwnedTupleGo tg (.ref it) u) Q E s := by
  unfold letOwnedTupleGo
  cases tg <;> first
    | exact wpAny_pure hQ
    | (cases u <;> first
        | exact wpAny_pure hQ
        | (refine wpAny_bind (wpAny_load ho ?_)
           rw [hc, hd]
           show wpAny M A (if (["enumerate", "zip", "dict_itemiterator", "dict_reverseitemiterator", "odict_iterator", "itertools.zip_longest", "itertools.pairwise"].contains n && vs[0]? == some (rawInt _)) = true then _ else _) Q E s
           rw [if_neg (by intro h; rw [hn, Bool.false_and] at h; cases h)]
           exact wpAny_pure hQ))

/-- the list at a, as it stands at each turn (a loop may append to it) -/
def Itl (K : PySem.W.Frag) (a : Addr) : It :=
  ⟨fun i H => ∃ xs x, SqL K H a xs ∧ xs[i]? = some x, fun i H x H' => H' = H ∧ ∀ xs, SqL K H a xs → xs[i]? = some x, fun i H => ∃ xs, SqL K H a xs ∧ xs.length ≤ i⟩
/-- lo, lo + 1, .. (n of them) -/
def Itr (lo : Int) (n : Nat) : It := ⟨fun i _ => i < n, fun i H x H' => H' = H ∧ x = .int (lo + i), fun i _ => n ≤ i⟩
theorem turn_list {P : Program} {w : World} {K : PySem.W.Frag} {tg : Expr} (a it : Addr) : Turn P w K tg (Itl K a) [it] it (fun i h => h.IsListIter it a i) where
  mem := by simp
  obj := fun i h st b hb => by
    have e : b = it := by simpa using hb
    subst e
    obtain ⟨o, e, c, d⟩ := st
    exact ⟨o, e, fun v z => by rw [d] at z; cases z⟩
  keep := fun i h h' st k => st.at fun o e => k it (by simp) o e
  item := by
    intro X hP hw hK hc i pins s σ H E I hf st hg
    subst hP hw hK
    obtain ⟨xs, x, hq, hx⟩ := hg
    obtain ⟨its, rv, p, hz⟩ := I.list hq
    obtain ⟨u, hu, ru⟩ := rv.get hx
    obtain ⟨f0, f1, f2, f3, f4, f5⟩ := hf it (by simp)
    refine wpAny_pyNext_list_item st p.isList (x := u) (by simpa using hu) fun h' st' sb => ?_
    have I1 : Inv X pins σ H { s with heap := h' } := I.turned (t' := s.toks) (fun b o hb e => (sb.2 b hb).trans e) f0 f1 f3 f4 f5
    obtain ⟨o, e, c, d⟩ := id st'
    exact ⟨u, rfl, go_of (s := { s with heap := h' }) e c d (by decide) ⟨x, H, I1, ru, ⟨rfl, fun ys hy => by rw [I.list_inj hy hq]; exact hx⟩, st', fun b hb => (hf b hb).1⟩⟩
  done := by
    intro X hP hw hK hc i pins s σ H E I hf st hg
    subst hP hw hK
    obtain ⟨xs, hq, hx⟩ := hg
    obtain ⟨its, rv, p, hz⟩ := I.list hq
    obtain ⟨f0, f1, f2, f3, f4, f5⟩ := hf it (by simp)
    have hl := rv.length
    exact wpAny_pyNext_list_end (I.ok.hd hc) st p.isList (by simp; omega) fun h' eb => ⟨rfl, I.turned (t' := s.toks) (fun b o hb e => eb b o hb e) f0 f1 f3 f4 f5⟩
  self := fun _ _ _ _ _ st h => wpAny_pyIter_listiter st h
theorem turn_range {P : Program} {w : World} {K : PySem.W.Frag} {tg : Expr} (it : Addr) (lo : Int) (n : Nat) : Turn P w K tg (Itr lo n) [it] it (fun i h => IsRangeIter h it (lo + (i : Nat) * 1) ((n : Int) - (i : Nat)) 1) where
  mem := by simp
  obj := fun i h st b hb => by
    have e : b = it := by simpa using hb
    subst e
    exact ⟨_, st, fun v z => by
      have z' : Data.fields _ = Data.cell v := z
      cases z'⟩
  keep := fun i h h' st k => k it (by simp) _ st
  item := by
    intro X hP hw hK hc i pins s σ H E I hf st hg
    subst hP hw hK
    obtain ⟨f0, f1, f2, f3, f4, f5⟩ := hf it (by simp)
    have W := Walks.range (prog := X.prog) (w := X.w) (I.ok.hd hc) it lo 1 n
    refine W.item i s _ _ hg st fun v h' tk hv st' kk => ?_
    obtain ⟨t, rfl⟩ := hv
    have I1 : Inv X pins σ H { s with heap := h', toks := tk } := I.turned (fun b o hb e => kk b o (by simpa using hb) e) f0 f1 f3 f4 f5
    refine ⟨_, rfl, go_of (s := { s with heap := h', toks := tk }) (n := "range_iterator") st' rfl rfl (by decide) ⟨.int (lo + i), H, I1, ⟨t, ?_⟩, ⟨rfl, rfl⟩, st', fun b hb => (hf b hb).1⟩⟩
    rw [Int.mul_one]
  done := by
    intro X hP hw hK hc i pins s σ H E I hf st hg
    subst hP hw hK
    obtain ⟨f0, f1, f2, f3, f4, f5⟩ := hf it (by simp)
    exact wpAny_pyNext_range_end (I.ok.hd hc) st (by have : n ≤ i := hg; omega) fun h' eb => ⟨rfl, I.turned (t' := s.toks) (fun b o hb e => eb b o hb e) f0 f1 f3 f4 f5⟩
  self := fun _ _ _ _ _ st h => wpAny_pyIter_rangeiter st h
end L2

namespace L2
open PySem PySem.Spec PyProof.Rows
section
variable {X : Cx} {tg : Expr}
def iList (K : PySem.W.Frag) (tl : TE) : TI := fun σ H R => tl σ H fun x H1 => ∃ a, x = .ref a ∧ (∃ xs, SqL K H1 a xs) ∧ R (Itl K a) H1
theorem pi_list {l : Expr} {tl : TE} (hl : PE X l tl) : PI X tg l (iList X.K tl) := by
  intro pins s σ H R I h
  refine thn (hl pins s σ H _ I h) fun v s1 ⟨x, H1, I1, r1, q1⟩ => ?_
  obtain ⟨a, e, ⟨xs, hq⟩, q⟩ := q1
  subst e
  cases r1
  obtain ⟨its, rv, p, hz⟩ := I1.list hq
  refine wpAny_pyIter_list p.isList ?_
  refine ⟨s1.heap.objs.size, [s1.heap.objs.size], _, _, H1, rfl, I1.kept (t' := s1.toks) fun b o e => Heap.get?_push_of_some _ e, turn_list a _, ⟨_, Heap.get?_push_size _ rfl, rfl, rfl⟩, fun b hb => ?_, q⟩
  have e : b = s1.heap.objs.size := by simpa using hb
  subst e
  exact I1.fpOk (Nat.le_refl _) (I1.hok.fresh (Nat.le_refl _))
/-- a range object just made, walked -/
theorem range_it {pins : List (Addr × Obj)} {σ : St} {H : Hp} {s : Shared} {R : It → Hp → Prop} {E : Value → Shared → Prop} {lo hi : Int} {t u v : Tok} {tk : Nat} (I : Inv X pins σ H s) (h1 : -(2 ^ 62) ≤ lo) (h2 : lo < 2 ^ 62) (h3 : -(2 ^ 62) ≤ hi) (h4 : hi < 2 ^ 62)
    (q : R (Itr lo (hi - lo).toNat) H) : wpAny (model X.prog X.w) X.A (pyIter (.ref s.heap.objs.size)) (PIE X pins σ tg R) E { s with heap := s.heap.push { cls := .type "range", data := .fields #[.int lo t, .int hi u, .int 1 v] }, toks := tk } := by
  refine wpAny_pyIter_range (IsRange.new ..) (small_one h1 h2 h3 h4) ?_
  have I1 : Inv X pins σ H { s with heap := s.heap.push { cls := .type "range", data := .fields #[.int lo t, .int hi u, .int 1 v] }, toks := tk } := I.kept fun b o e => Heap.get?_push_of_some _ e
  refine ⟨(s.heap.push { cls := .type "range", data := .fields #[.int lo t, .int hi u, .int 1 v] }).objs.size, [(s.heap.push { cls := .type "range", data := .fields #[.int lo t, .int hi u, .int 1 v] }).objs.size], _, _, H, rfl,
    I1.kept (t' := tk) fun b o e => Heap.get?_push_of_some _ e, turn_range _ lo (hi - lo).toNat, ?_, fun b hb => ?_, q⟩
  · have e1 : lo + ((0 : Nat) : Int) * 1 = lo := by simp
    have e2 : (((hi - lo).toNat : Nat) : Int) - ((0 : Nat) : Int) = Builtin.Range.rangeSize lo hi 1 := by rw [rangeSize_one]; split <;> omega
    show IsRangeIter _ _ (lo + ((0 : Nat) : Int) * 1) ((((hi - lo).toNat : Nat) : Int) - ((0 : Nat) : Int)) 1
    rw [e1, e2]
    exact Heap.get?_push_size _ rfl
  · have e : b = (s.heap.push { cls := .type "range", data := .fields #[.int lo t, .int hi u, .int 1 v] }).objs.size := by simpa using hb
    subst e
    exact I1.fpOk (Nat.le_refl _) (I1.hok.fresh (Nat.le_refl _))
def iRng1 (ta : TA) : TI := fun σ H R => ta σ H fun vs H1 => ∃ j : Int, vs = [.int j] ∧ -(2 ^ 62) ≤ j ∧ j < 2 ^ 62 ∧ R (Itr 0 j.toNat) H1
theorem pi_range1 {a : Expr} {ta : TA} {p pos : Pos} (hg : Gl X "range") (hm : X.mg "range" = none) (ha : PA X [a] ta) (hs : starEach [a] X.env = [(false, eval a X.env)] := by rfl) : PI X tg (.Call (.Name "range" p) [a] [] pos) (iRng1 ta) := by
  intro pins s σ H R I h
  refine Call_ (ld_blt I hg hm boot_range (PyProof.Rows.callWith_type1 (thn (ha pos pins s σ H _ I h) fun us s1 ⟨vs, H1, I1, r1, q1⟩ => ?_) hs rfl))
  obtain ⟨j, e, q1, q2, q⟩ := q1
  subst e
  cases r1 with
  | cons r rr =>
    cases rr
    obtain ⟨t, rfl⟩ := r
    exact call_range_1 (range_it I1 (by omega) (by omega) q1 q2 (by simpa using q))
/-! ### for -/
/-- W: the invariant by the turn and a measure; N: what the body is to reach -/
def tFor (wi : TI) (g : TG) (tb : TS) : TS := fun D σ H => wi σ H fun J H1 => ∃ W : Nat → Nat → St → Hp → Prop, (∃ m, W 0 m σ H1) ∧ ∀ i m σ H, W i m σ H →
  (J.stop i H ∧ D.nx σ H) ∨ (J.go i H ∧ ∃ N : St → Hp → Prop, (∀ σ' H', N σ' H' → ∃ m', m' < m ∧ W (i + 1) m' σ' H') ∧ ∀ x H', J.yld i H x H' → g x σ H' fun σ2 H2 => tb { D with nx := N, ct := N, bk := D.nx } σ2 H2)
/-- the records at fp as they stand -/
def pinsAt (fp : List Addr) (h : Heap) : List (Addr × Obj) := fp.filterMap fun b => (h.get? b).map fun o => (b, o)
theorem mem_pinsAt {fp : List Addr} {h : Heap} {b : Addr} {o : Obj} (hb : b ∈ fp) (e : h.get? b = some o) : (b, o) ∈ pinsAt fp h := List.mem_filterMap.mpr ⟨b, hb, by rw [e]; rfl⟩
theorem of_pinsAt {fp : List Addr} {h : Heap} {p : Addr × Obj} (hp : p ∈ pinsAt fp h) : p.1 ∈ fp ∧ h.get? p.1 = some p.2 := by
  obtain ⟨b, hb, e⟩ := List.mem_filterMap.mp hp
  cases q : h.get? b with
  | none => rw [q] at e; cases e
  | some o =>
    rw [q] at e
    have e' : (b, o) = p := Option.some.inj e
    subst e'
    exact ⟨hb, q⟩
theorem Inv.pinned {pins : List (Addr × Obj)} {σ : St} {H : Hp} {s : Shared} {fp : List Addr} (I : Inv X pins σ H s) (hf : ∀ b ∈ fp, FpOk X pins H b) (ho : ∀ b ∈ fp, ∃ o, s.heap.get? b = some o ∧ ∀ v, o.data ≠ .cell v) : Inv X (pins ++ pinsAt fp s.heap) σ H s :=
  I.pins_of fun p hp => (List.mem_append.mp hp).elim (fun z => I.pin p (List.mem_append_right _ z)) fun z => by
    obtain ⟨hb, e⟩ := of_pinsAt z
    obtain ⟨f0, f1, f2, _⟩ := hf p.1 hb
    obtain ⟨o, e', d⟩ := ho p.1 hb
    rw [e] at e'; cases e'
    exact ⟨e, f0, f1, f2, d⟩
theorem Inv.unpinned {pins pl : List (Addr × Obj)} {σ : St} {H : Hp} {s : Shared} (I : Inv X (pins ++ pl) σ H s) : Inv X pins σ H s := I.pins_of fun p hp => I.pin p (List.mem_append_right _ (List.mem_append_left _ hp))
theorem ps_for {iter : Expr} {body : List Stmt} {wi : TI} {g : TG} {tb : TS} {pos : Pos} (hp : PassesOwn (model X.prog X.w) X.A X.env X.xe) (hc : X.calm = true) (hi : PI X tg iter wi) (hg : PG X tg g) (hb : PSs X body tb)
    (hs : ∀ x, foldedSetIterable iter X.env x = pure x := by intro _; rfl) : PS X (.For tg iter body [] pos) (tFor wi g tb) := by
  intro pins s σ H D I h
  refine wpAny_For (thn (hi pins s σ H _ I h) fun v s1 h1 => thn h1 fun itv s2 h2 => ?_) hs
  obtain ⟨it, fp, tn, J, H2, e, I2, T, st2, f2, W, ⟨m0, w0⟩, turn⟩ := h2
  subst e
  -- what stays true of the iterator's objects through the loop
  have stat : ∀ {H' : Hp}, (∀ b ∈ fp, H' b = none) → ∀ b ∈ fp, FpOk X pins H' b := fun hn b hb => ⟨hn b hb, (f2 b hb).2⟩
  refine codeAny_forLoop_any (fun n s' => ∃ i σ' H', Inv X pins σ' H' s' ∧ tn i s'.heap ∧ (∀ b ∈ fp, H' b = none) ∧ W i n σ' H') ?_ m0 ⟨0, σ, H2, I2, st2, fun b hb => (f2 b hb).1, w0⟩
  rintro n s3 ⟨i, σ3, H3, I3, st3, fr3, w3⟩
  rcases turn i n σ3 H3 w3 with ⟨stop, qn⟩ | ⟨go, N, hN, step⟩
  · refine wpAny_passesOwn hp (thn (T.done X rfl rfl rfl hc i pins s3 σ3 H3 X.xe I3 (stat fr3) st3 stop) fun r s4 ⟨hr, I4⟩ => ?_)
    subst hr
    exact wpAny_execs_nil ⟨σ3, H3, I4, qn⟩
  · refine wpAny_passesOwn hp (thn (T.item X rfl rfl rfl hc i pins s3 σ3 H3 X.xe I3 (stat fr3) st3 go) fun r s4 ⟨u, hr, h4⟩ => ?_)
    subst hr
    refine wpAny_passesOwn hp (thn h4 fun _ s5 ⟨x, H5, I5, r5, y5, st5, fr5⟩ => ?_)
    have I5' := I5.pinned (stat fr5) (T.obj _ _ st5)
    refine wpAny_passesOwn hp (thn (hg _ s5 σ3 H5 x u _ I5' r5 (step x H5 y5)) fun _ s6 ⟨σ6, H6, I6, q6⟩ => ?_)
    refine wpAny_passesOwn hp (thn (hb _ s6 σ6 H6 _ I6 q6) fun f s7 q7 => ?_)
    have again : ∀ {σ7 : St} {H7 : Hp}, Inv X (pins ++ pinsAt fp s5.heap) σ7 H7 s7 → N σ7 H7 → ∃ m, m < n ∧ ∃ i σ' H', Inv X pins σ' H' s7 ∧ tn i s7.heap ∧ (∀ b ∈ fp, H' b = none) ∧ W i m σ' H' := fun {σ7 H7} I7 n7 => by
      obtain ⟨m', hm, w7⟩ := hN σ7 H7 n7
      refine ⟨m', hm, i + 1, σ7, H7, I7.unpinned, T.keep _ _ _ st5 fun b hb o e => (I7.pin (b, o) (List.mem_append_right _ (List.mem_append_right _ (mem_pinsAt hb e)))).1, fun b hb => ?_, w7⟩
      obtain ⟨o, e, d⟩ := T.obj _ _ st5 b hb
      exact (I7.pin (b, o) (List.mem_append_right _ (List.mem_append_right _ (mem_pinsAt hb e)))).2.1
    cases f with
    | next => obtain ⟨σ7, H7, I7, n7⟩ := q7; exact again I7 n7
    | cont => obtain ⟨σ7, H7, I7, n7⟩ := q7; exact again I7 n7
    | brk => obtain ⟨σ7, H7, I7, q7⟩ := q7; exact ⟨σ7, H7, I7.unpinned, q7⟩
    | ret v => obtain ⟨x7, σ7, H7, I7, r7, q7⟩ := q7; exact ⟨x7, σ7, H7, I7.unpinned, r7, q7⟩
end

/-! ### the forms one uses -/
/-- over a list that the body leaves as it is -/
theorem for_list {K : PySem.W.Frag} {a : Addr} {xs : List V} {g : TG} {tb : TS} {D : Ends} {σ : St} {H : Hp} (Pv : Nat → St → Hp → Prop) (h0 : Pv 0 σ H) (hl : ∀ i σ H, i ≤ xs.length → Pv i σ H → SqL K H a xs)
    (hs : ∀ i x σ H, xs[i]? = some x → Pv i σ H → g x σ H fun σ2 H2 => tb { D with nx := Pv (i + 1), ct := Pv (i + 1), bk := D.nx } σ2 H2) (hd : ∀ σ H, Pv xs.length σ H → D.nx σ H) :
    ∃ W : Nat → Nat → St → Hp → Prop, (∃ m, W 0 m σ H) ∧ ∀ i m σ H, W i m σ H →
      ((Itl K a).stop i H ∧ D.nx σ H) ∨ ((Itl K a).go i H ∧ ∃ N : St → Hp → Prop, (∀ σ' H', N σ' H' → ∃ m', m' < m ∧ W (i + 1) m' σ' H') ∧ ∀ x H', (Itl K a).yld i H x H' → g x σ H' fun σ2 H2 => tb { D with nx := N, ct := N, bk := D.nx } σ2 H2) := by
  refine ⟨fun i m σ H => m = xs.length - i ∧ i ≤ xs.length ∧ Pv i σ H, ⟨xs.length, by simp, Nat.zero_le _, h0⟩, ?_⟩
  rintro i m σ H ⟨rfl, hi, p⟩
  have q := hl i σ H hi p
  by_cases hlt : i < xs.length
  · refine .inr ⟨⟨xs, xs[i], q, by simp [hlt]⟩, Pv (i + 1), fun σ' H' p' => ⟨xs.length - (i + 1), by omega, rfl, hlt, p'⟩, fun x H' y => ?_⟩
    obtain ⟨e, y⟩ := y
    subst e
    exact hs i x σ _ (y xs q) p
  · have e : i = xs.length := by omega
    subst e
    exact .inl ⟨⟨xs, q, Nat.le_refl _⟩, hd σ H p⟩
theorem for_range {lo : Int} {n : Nat} {g : TG} {tb : TS} {D : Ends} {σ : St} {H : Hp} (Pv : Nat → St → Hp → Prop) (h0 : Pv 0 σ H)
    (hs : ∀ i σ H, i < n → Pv i σ H → g (.int (lo + i)) σ H fun σ2 H2 => tb { D with nx := Pv (i + 1), ct := Pv (i + 1), bk := D.nx } σ2 H2) (hd : ∀ σ H, Pv n σ H → D.nx σ H) :
    ∃ W : Nat → Nat → St → Hp → Prop, (∃ m, W 0 m σ H) ∧ ∀ i m σ H, W i m σ H →
      ((Itr lo n).stop i H ∧ D.nx σ H) ∨ ((Itr lo n).go i H ∧ ∃ N : St → Hp → Prop, (∀ σ' H', N σ' H' → ∃ m', m' < m ∧ W (i + 1) m' σ' H') ∧ ∀ x H', (Itr lo n).yld i H x H' → g x σ H' fun σ2 H2 => tb { D with nx := N, ct := N, bk := D.nx } σ2 H2) := by
  refine ⟨fun i m σ H => m = n - i ∧ i ≤ n ∧ Pv i σ H, ⟨n, by simp, Nat.zero_le _, h0⟩, ?_⟩
  rintro i m σ H ⟨rfl, hi, p⟩
  by_cases hlt : i < n
  · refine .inr ⟨hlt, Pv (i + 1), fun σ' H' p' => ⟨n - (i + 1), by omega, rfl, hlt, p'⟩, fun x H' y => ?_⟩
    obtain ⟨e, y⟩ := y
    subst e y
    exact hs i σ _ hlt p
  · have e : i = n := by omega
    subst e
    exact .inl ⟨Nat.le_refl _, hd σ H p⟩
end L2

namespace L2
open PySem PySem.Spec PyProof.Rows

abbrev R2 := V → V → Hp → VK → Prop
/-- a two-place operation on values: f is binaryOp op, inplaceOp op or compareOp op -/
def OpR (X : Cx) (f : Value → Value → Sem Value) (r : R2) : Prop :=
  ∀ (pins : List (Addr × Obj)) (s : Shared) (σ : St) (H : Hp) (x y : V) (v u : Value) (Q : VK), Inv X pins σ H s → RelV x v → RelV y u → r x y H Q →
    wpAny (model X.prog X.w) X.A (f v u) (EP X pins σ Q) X.xe s
/-- a one-place operation -/
def UnR (X : Cx) (f : Value → Sem Value) (r : V → Hp → VK → Prop) : Prop :=
  ∀ (pins : List (Addr × Obj)) (s : Shared) (σ : St) (H : Hp) (x : V) (v : Value) (Q : VK), Inv X pins σ H s → RelV x v → r x H Q →
    wpAny (model X.prog X.w) X.A (f v) (EP X pins σ Q) X.xe s
/-- a call of a value that is known (a builtin, a type) with values -/
def CallR (X : Cx) (f : Value) (r : List V → Hp → VK → Prop) : Prop :=
  ∀ (pins : List (Addr × Obj)) (s : Shared) (σ : St) (H : Hp) (xs : List V) (us : List Value) (Q : VK), Inv X pins σ H s → Vals xs us → r xs H Q →
    wpAny (model X.prog X.w) X.A (call f us) (EP X pins σ Q) X.xe s
def tOp (r : R2) (ta tb : TE) : TE := fun σ H Q => ta σ H fun x H1 => tb σ H1 fun y H2 => r x y H2 Q
def tUn (r : V → Hp → VK → Prop) (ta : TE) : TE := fun σ H Q => ta σ H fun x H1 => r x H1 Q
/-- ints in, under C, and a value out -/
inductive rI (C : Int → Int → Prop) (g : Int → Int → V) (x : V) (y : V) (H : Hp) (Q : VK) : Prop
  | mk (i : _) (j : _) (_ : x = .int i) (_ : y = .int j) (_ : C i j) (_ : Q (g i j) H) : rI C g x y H Q
inductive rI0 (g : Int → Int → V) (x : V) (y : V) (H : Hp) (Q : VK) : Prop
  | mk (i : _) (j : _) (_ : x = .int i) (_ : y = .int j) (_ : Q (g i j) H) : rI0 g x y H Q
inductive rU (g : Int → V) (x : V) (H : Hp) (Q : VK) : Prop
  | mk (i : _) (_ : x = .int i) (_ : Q (g i) H) : rU g x H Q

section
variable {X : Cx} {a b c : Expr} {ta tb tc : TE} {pos : Pos}

theorem binT (ha : PE X a ta) (hb : PE X b tb) {pins : List (Addr × Obj)} {s : Shared} {σ : St} {H : Hp} {R : V → V → Hp → Prop} (I : Inv X pins σ H s)
    (h : ta σ H fun x H1 => tb σ H1 fun y H2 => R x y H2) {Q : Value → Shared → Prop} {f : Value → Value → Sem Value}
    (hf : ∀ v u s2 x y H2, Inv X pins σ H2 s2 → RelV x v → RelV y u → R x y H2 → wpAny (model X.prog X.w) X.A (f v u) Q X.xe s2) :
    wpAny (model X.prog X.w) X.A (eval a X.env) (fun v s₁ => wpAny (model X.prog X.w) X.A (eval b X.env) (fun u s₂ => wpAny (model X.prog X.w) X.A (f v u) Q X.xe s₂) X.xe s₁) X.xe s := by
  refine thn (ha pins s σ H _ I h) fun v s1 ⟨x, H1, I1, r1, q1⟩ => ?_
  refine thn (hb pins s1 σ H1 _ I1 q1) fun u s2 ⟨y, H2, I2, r2, q2⟩ => ?_
  exact hf v u s2 x y H2 I2 r1 r2 q2

theorem pe_op {op : Operator} {r : R2} (ho : OpR X (binaryOp op) r) (ha : PE X a ta) (hb : PE X b tb) : PE X (.BinOp a op b pos) (tOp r ta tb) := by
  intro pins s σ H Q I h
  exact wpAny_BinOp (binT ha hb I h fun v u s2 x y H2 I2 rx ry q => ho pins s2 σ H2 x y v u Q I2 rx ry q)
theorem pe_un {op : UnaryOp} {r : V → Hp → VK → Prop} (ho : UnR X (unaryOp op) r) (ha : PE X a ta) : PE X (.UnaryOp op a pos) (tUn r ta) := by
  intro pins s σ H Q I h
  exact UnaryOp_ (thn (ha pins s σ H _ I h) fun v s1 ⟨x, H1, I1, r1, q1⟩ => ho pins s1 σ H1 x v Q I1 r1 q1)
/-! ### ints -/
theorem opI {f : Value → Value → Sem Value} {C : Int → Int → Prop} {g : Int → Int → Int}
    (rule : ∀ (i j : Int) (t u : Tok) (s : Shared) (Q : Value → Shared → Prop) (E : Value → Shared → Prop), C i j → Q (.int (g i j) s.toks) { s with toks := s.toks + 1 } → wpAny (model X.prog X.w) X.A (f (.int i t) (.int j u)) Q E s) :
    OpR X f (rI C fun i j => .int (g i j)) := by
  intro pins s σ H x y v u Q I rx ry h
  obtain ⟨i, j, rfl, rfl, hc, q⟩ := h
  obtain ⟨t, rfl⟩ := rx
  obtain ⟨t', rfl⟩ := ry
  exact rule i j t t' s _ _ hc ⟨.int (g i j), H, I.tok _, ⟨_, rfl⟩, q⟩
theorem opI0 {f : Value → Value → Sem Value} {g : Int → Int → Int}
    (rule : ∀ (i j : Int) (t u : Tok) (s : Shared) (Q : Value → Shared → Prop) (E : Value → Shared → Prop), Q (.int (g i j) s.toks) { s with toks := s.toks + 1 } → wpAny (model X.prog X.w) X.A (f (.int i t) (.int j u)) Q E s) :
    OpR X f (rI0 fun i j => .int (g i j)) := by
  intro pins s σ H x y v u Q I rx ry h
  obtain ⟨i, j, rfl, rfl, q⟩ := h
  obtain ⟨t, rfl⟩ := rx
  obtain ⟨t', rfl⟩ := ry
  exact rule i j t t' s _ _ ⟨.int (g i j), H, I.tok _, ⟨_, rfl⟩, q⟩
theorem opB0 {f : Value → Value → Sem Value} {g : Int → Int → Bool}
    (rule : ∀ (i j : Int) (t u : Tok) (s : Shared) (Q : Value → Shared → Prop) (E : Value → Shared → Prop), Q (.bool (g i j)) s → wpAny (model X.prog X.w) X.A (f (.int i t) (.int j u)) Q E s) :
    OpR X f (rI0 fun i j => .bl (g i j)) := by
  intro pins s σ H x y v u Q I rx ry h
  obtain ⟨i, j, rfl, rfl, q⟩ := h
  obtain ⟨t, rfl⟩ := rx
  obtain ⟨t', rfl⟩ := ry
  exact rule i j t t' s _ _ ⟨.bl (g i j), H, I, rfl, q⟩

def CDiv (i j : Int) : Prop := 0 < j ∧ j < 1073741824
def CMul (i j : Int) : Prop := (-(2 ^ 64) < i ∧ i < 2 ^ 64) ∨ (-(2 ^ 64) < j ∧ j < 2 ^ 64)
theorem CMul.ok {i j : Int} (h : CMul i j) : IntMulOk i j := by
  rcases h with ⟨h1, h2⟩ | ⟨h1, h2⟩
  · exact .of_left (intBits_le_64 h1 h2)
  · exact .of_right (intBits_le_64 h1 h2)
theorem op_add : OpR X (binaryOp .Add) (rI0 fun i j => .int (i + j)) := opI0 fun _ _ _ _ _ _ _ q => add_int q
theorem op_sub : OpR X (binaryOp .Sub) (rI0 fun i j => .int (i - j)) := opI0 fun _ _ _ _ _ _ _ q => sub_int q
theorem op_mul : OpR X (binaryOp .Mult) (rI CMul fun i j => .int (i * j)) := opI fun _ _ _ _ _ _ _ hc q => mul_int q hc.ok
/-- // by a positive divisor -/
theorem op_fdiv : OpR X (binaryOp .FloorDiv) (rI CDiv fun i j => .int (i / j)) := opI fun i j _ _ _ _ _ hc q => by
  have h1 : (0 : Int) < j := hc.1
  have h2 : j < 1073741824 := hc.2
  exact floordiv_int (by omega) (by rw [Int.fdiv_eq_ediv_of_nonneg i (by omega)]; exact q) (.inl (PyProof.noPylong_small (by omega)))
/-- % by a positive divisor of any size -/
theorem op_mod : OpR X (binaryOp .Mod) (rI (fun _ j => 0 < j) fun i j => .int (i % j)) := opI fun i j _ _ _ _ _ hc q => by
  have h1 : (0 : Int) < j := hc
  exact mod_int' (by omega) (by rw [Int.fmod_eq_emod_of_nonneg i (by omega)]; exact q)
theorem unI {f : Value → Sem Value} {g : Int → Int}
    (rule : ∀ (i : Int) (t : Tok) (s : Shared) (Q : Value → Shared → Prop) (E : Value → Shared → Prop), Q (.int (g i) s.toks) { s with toks := s.toks + 1 } → wpAny (model X.prog X.w) X.A (f (.int i t)) Q E s) :
    UnR X f (rU fun i => .int (g i)) := by
  intro pins s σ H x v Q I rx h
  obtain ⟨i, rfl, q⟩ := h
  obtain ⟨t, rfl⟩ := rx
  exact rule i t s _ _ ⟨.int (g i), H, I.tok _, ⟨_, rfl⟩, q⟩
theorem un_neg : UnR X (unaryOp .USub) (rU fun i => .int (-i)) := unI fun _ _ _ _ _ q => neg_int q
/-! ### bools among ints: n += (a < b) -/
end

/-! ### comparisons -/
/-- the scalars that == tells apart as data does -/
def scal : V → V → Bool
  | .non, .non => true | .non, .int _ => true | .int _, .non => true | .non, .bl _ => true | .bl _, .non => true | .non, .str _ => true | .str _, .non => true
  | .int _, .int _ => true | .bl _, .bl _ => true | .str _, .str _ => true | .byt _, .byt _ => true
  | .int _, .str _ => true | .str _, .int _ => true | .bl _, .str _ => true | .str _, .bl _ => true
  | _, _ => false
def rEq : R2 := fun x y H Q => scal x y = true ∧ Q (.bl (decide (x = y))) H
def rNe : R2 := fun x y H Q => scal x y = true ∧ Q (.bl (!decide (x = y))) H

theorem dec_int {i j : Int} : decide (V.int i = V.int j) = (i == j) := by
  rw [Bool.eq_iff_iff]
  simp
theorem dec_bl {i j : Bool} : decide (V.bl i = V.bl j) = (i == j) := by
  rw [Bool.eq_iff_iff]
  simp
theorem dec_str {i j : Str} : decide (V.str i = V.str j) = (i == j) := by
  rw [Bool.eq_iff_iff]
  simp
theorem dec_byt {i j : Array UInt8} : decide (V.byt i = V.byt j) = (i.toList == j.toList) := by
  rw [Bool.eq_iff_iff]
  cases i
  cases j
  simp

section
variable {X : Cx} {a b c : Expr} {ta tb tc : TE} {pos : Pos}
theorem fin_bl {pins : List (Addr × Obj)} {σ : St} {H : Hp} {s : Shared} {Q : VK} {k k' : Bool} (I : Inv X pins σ H s) (q : Q (.bl k) H) (e : k = k') : EP X pins σ Q (.bool k') s := by
  subst e
  exact ⟨.bl k, H, I, rfl, q⟩
theorem op_eq : OpR X (compareOp .Eq) rEq := by
  intro pins s σ H x y v u Q I rx ry h
  obtain ⟨hs, q⟩ := h
  cases x with
  | non =>
    cases rx
    cases y with
    | non => cases ry; exact PySem.EqNone.eq_none_none (fin_bl I q (by simp))
    | bl j => cases ry; exact PySem.EqNone.eq_none_bool (fin_bl I q (by simp))
    | int j => obtain ⟨t', rfl⟩ := ry; exact PySem.EqNone.eq_none_int (fin_bl I q (by simp))
    | str j => obtain ⟨t', rfl⟩ := ry; exact PySem.EqNone.eq_none_str (fin_bl I q (by simp))
    | _ => exact absurd (show false = true from hs) Bool.false_ne_true
  | bl i =>
    cases rx
    cases y with
    | non => cases ry; exact PySem.EqNone.eq_bool_none (fin_bl I q (by simp))
    | bl j => cases ry; exact eq_bool (fin_bl I q dec_bl)
    | str j => obtain ⟨t', rfl⟩ := ry; exact PySem.EqMixed.eq_bool_str (fin_bl I q (by simp))
    | _ => exact absurd (show false = true from hs) Bool.false_ne_true
  | int i =>
    obtain ⟨t, rfl⟩ := rx
    cases y with
    | non => cases ry; exact PySem.EqNone.eq_int_none (fin_bl I q (by simp))
    | int j => obtain ⟨t', rfl⟩ := ry; exact eq_int (fin_bl I q dec_int)
    | str j => obtain ⟨t', rfl⟩ := ry; exact PySem.EqMixed.eq_int_str (fin_bl I q (by simp))
    | _ => exact absurd (show false = true from hs) Bool.false_ne_true
  | str i =>
    obtain ⟨t, rfl⟩ := rx
    cases y with
    | non => cases ry; exact PySem.EqNone.eq_str_none (fin_bl I q (by simp))
    | bl j => cases ry; exact PySem.EqMixed.eq_str_bool (fin_bl I q (by simp))
    | int j => obtain ⟨t', rfl⟩ := ry; exact PySem.EqMixed.eq_str_int (fin_bl I q (by simp))
    | str j => obtain ⟨t', rfl⟩ := ry; exact eq_str (fin_bl I q dec_str)
    | _ => exact absurd (show false = true from hs) Bool.false_ne_true
  | byt i =>
    obtain ⟨t, rfl⟩ := rx
    cases y with
    | byt j => obtain ⟨t', rfl⟩ := ry; exact PySem.W.eq_bytes (fin_bl I q dec_byt)
    | _ => exact absurd (show false = true from hs) Bool.false_ne_true
  | _ => cases y <;> exact absurd (show false = true from hs) Bool.false_ne_true
theorem op_ne : OpR X (compareOp .NotEq) rNe := by
  intro pins s σ H x y v u Q I rx ry h
  obtain ⟨hs, q⟩ := h
  cases x with
  | non =>
    cases rx
    cases y with
    | non => cases ry; exact PySem.EqNone.ne_none_none (fin_bl I q (by simp))
    | bl j => cases ry; exact PySem.EqNone.ne_none_bool (fin_bl I q (by simp))
    | int j => obtain ⟨t', rfl⟩ := ry; exact PySem.EqNone.ne_none_int (fin_bl I q (by simp))
    | str j => obtain ⟨t', rfl⟩ := ry; exact PySem.EqNone.ne_none_str (fin_bl I q (by simp))
    | _ => exact absurd (show false = true from hs) Bool.false_ne_true
  | bl i =>
    cases rx
    cases y with
    | non => cases ry; exact PySem.EqNone.ne_bool_none (fin_bl I q (by simp))
    | bl j => cases ry; exact ne_bool (fin_bl I q (congrArg not dec_bl))
    | str j => obtain ⟨t', rfl⟩ := ry; exact PySem.EqMixed.ne_bool_str (fin_bl I q (by simp))
    | _ => exact absurd (show false = true from hs) Bool.false_ne_true
  | int i =>
    obtain ⟨t, rfl⟩ := rx
    cases y with
    | non => cases ry; exact PySem.EqNone.ne_int_none (fin_bl I q (by simp))
    | int j => obtain ⟨t', rfl⟩ := ry; exact ne_int (fin_bl I q (congrArg not dec_int))
    | str j => obtain ⟨t', rfl⟩ := ry; exact PySem.EqMixed.ne_int_str (fin_bl I q (by simp))
    | _ => exact absurd (show false = true from hs) Bool.false_ne_true
  | str i =>
    obtain ⟨t, rfl⟩ := rx
    cases y with
    | non => cases ry; exact PySem.EqNone.ne_str_none (fin_bl I q (by simp))
    | bl j => cases ry; exact PySem.EqMixed.ne_str_bool (fin_bl I q (by simp))
    | int j => obtain ⟨t', rfl⟩ := ry; exact PySem.EqMixed.ne_str_int (fin_bl I q (by simp))
    | str j => obtain ⟨t', rfl⟩ := ry; exact ne_str (fin_bl I q (congrArg not dec_str))
    | _ => exact absurd (show false = true from hs) Bool.false_ne_true
  | byt i =>
    obtain ⟨t, rfl⟩ := rx
    cases y with
    | byt j => obtain ⟨t', rfl⟩ := ry; exact PySem.W.ne_bytes (fin_bl I q (congrArg not dec_byt))
    | _ => exact absurd (show false = true from hs) Bool.false_ne_true
  | _ => cases y <;> exact absurd (show false = true from hs) Bool.false_ne_true

theorem op_lt : OpR X (compareOp .Lt) (rI0 fun i j => .bl (decide (i < j))) := opB0 fun _ _ _ _ _ _ _ q => lt_int q
theorem op_le : OpR X (compareOp .LtE) (rI0 fun i j => .bl (decide (i ≤ j))) := opB0 fun _ _ _ _ _ _ _ q => le_int q
theorem op_gt : OpR X (compareOp .Gt) (rI0 fun i j => .bl (decide (j < i))) := opB0 fun _ _ _ _ _ _ _ q => gt_int q
theorem op_ge : OpR X (compareOp .GtE) (rI0 fun i j => .bl (decide (j ≤ i))) := opB0 fun _ _ _ _ _ _ _ q => ge_int q
theorem nomark (b : Expr) {op : CmpOp} (h : op ≠ .In := by decide) (h2 : op ≠ .NotIn := by decide) : behindInMarks op b = false := by
  have e1 : (op == CmpOp.In) = false := by cases op <;> first | rfl | exact absurd rfl h
  have e2 : (op == CmpOp.NotIn) = false := by cases op <;> first | rfl | exact absurd rfl h2
  cases b <;> simp [behindInMarks, e1, e2]
/-- a comparison as a value; hm: nomark b, or (for in, not in) by with_unfolding_all rfl -/
theorem pe_cmpR {op : CmpOp} {r : R2} (ho : OpR X (compareOp op) r) (ha : PE X a ta) (hb : PE X b tb) (hm : behindInMarks op b = false) : PE X (.Compare a [op] [b] pos) (tOp r ta tb) := by
  intro pins s σ H Q I h
  exact wpAny_Compare1 (binT ha hb I h fun v u s2 x y H2 I2 rx ry q => ho pins s2 σ H2 x y v u Q I2 rx ry q) hm
/-- a reading of a value as a test -/
def tTest (t : TE) : TT := fun σ H Q => t σ H fun x H' => ∃ k, x = .bl k ∧ Q k H'
theorem pt_cmpR {op : CmpOp} {r : R2} (ho : OpR X (compareOp op) r) (ha : PE X a ta) (hb : PE X b tb) (hm : behindInMarks op b = false) : PT X (.Compare a [op] [b] pos) (tTest (tOp r ta tb)) := by
  intro pins s σ H Q I h
  refine wpAny_isTrue_Compare1 (thn (ha pins s σ H _ I h) fun v s1 ⟨x, H1, I1, r1, q1⟩ => thn (hb pins s1 σ H1 _ I1 q1) fun u s2 ⟨y, H2, I2, r2, q2⟩ =>
    thn (ho pins s2 σ H2 x y v u _ I2 r1 r2 q2) fun c s3 ⟨z, H3, I3, r3, k, e, q3⟩ => ?_) hm
  subst e
  cases r3
  exact wpAny_truthy_bool ⟨H3, I3, q3⟩
/-! ### truth -/
theorem line63 : (sizeLine : Nat) < 2 ^ 63 := by rw [sizeLine_eq]; decide
/-! ### strs and bytes -/
theorem op_add_str : OpR X (binaryOp .Add) (fun x y H Q => ∃ i j, x = .str i ∧ y = .str j ∧ i.length + j.length ≤ sizeLine ∧ Q (.str (i ++ j)) H) := by
  intro pins s σ H x y v u Q I rx ry h
  obtain ⟨i, j, rfl, rfl, hz, q⟩ := h
  obtain ⟨t, rfl⟩ := rx
  obtain ⟨t', rfl⟩ := ry
  exact add_str (fun t' tk => ⟨.str (i ++ j), H, I.tok _, ⟨_, rfl⟩, q⟩) hz
/-! ### scalar builtins, by CallR -/
theorem vals1 {x : V} {us : List Value} (r : Vals [x] us) : ∃ u, us = [u] ∧ RelV x u := by
  cases r with
  | cons r1 r2 => cases r2; exact ⟨_, rfl, r1⟩
theorem vals2 {x y : V} {us : List Value} (r : Vals [x, y] us) : ∃ u w', us = [u, w'] ∧ RelV x u ∧ RelV y w' := by
  cases r with
  | cons r1 r2 =>
    cases r2 with
    | cons r3 r4 => cases r4; exact ⟨_, _, rfl, r1, r3⟩
theorem call_min2 (hc : X.calm = true) : CallR X (.builtin "min") (fun xs H Q => ∃ i j, xs = [.int i, .int j] ∧ Q (.int (if j < i then j else i)) H) := by
  intro pins s σ H xs us Q I r h
  obtain ⟨i, j, rfl, q⟩ := h
  obtain ⟨u, w', rfl, ⟨t, rfl⟩, ⟨t', rfl⟩⟩ := vals2 r
  refine min_two_ints (I.ok.hd hc) fun h' tk k => ⟨_, H, I.kept k, ?_, q⟩
  by_cases hj : j < i
  · rw [if_pos hj, if_pos hj]; exact ⟨_, rfl⟩
  · rw [if_neg hj, if_neg hj]; exact ⟨_, rfl⟩
theorem call_int1 : CallR X (.type "int") (fun xs H Q => (∃ i, xs = [.int i] ∧ Q (.int i) H) ∨ ∃ k, xs = [.bl k] ∧ Q (.int (if k then 1 else 0)) H) := by
  intro pins s σ H xs us Q I r h
  rcases h with ⟨i, rfl, q⟩ | ⟨k, rfl, q⟩
  · obtain ⟨u, rfl, t, rfl⟩ := vals1 r
    exact call_int_int ⟨.int i, H, I, ⟨_, rfl⟩, q⟩
  · obtain ⟨u, rfl, r1⟩ := vals1 r
    cases r1
    exact call_int_bool ⟨.int (if k then 1 else 0), H, I.tok _, ⟨_, rfl⟩, q⟩
end
end L2

namespace L2
open PySem PySem.Spec PyProof.Rows

/-! ### an instance, its attributes a map -/
structure ObjM (h : Heap) (x dx C : Addr) (mA : Str → Option Value) : Prop where
  obj : h.get? x = some (PySem.W.instObj C dx)
  ns : h.Ns1 dx mA
  ne : dx ≠ x

theorem lookIn_ns {h : Heap} {dx : Addr} {mA : Str → Option Value} (n : h.Ns1 dx mA) : ∃ od, h.get? dx = some od ∧ ∀ name, PySem.W.lookIn name od = some (mA name) := by
  obtain ⟨o, es, ep, ho, hd, hk, _, hm⟩ := n
  refine ⟨o, ho, fun name => ?_⟩
  have e := hm name
  unfold nsFind findBy at e
  rw [← Array.find?_toList] at e
  unfold PySem.W.lookIn
  rw [hd]
  dsimp only
  split
  · rename_i y q
    rw [q] at e
    exact congrArg some e
  · rename_i q
    rw [q] at e
    have a : es.toList.any (·.refKey) = false := by
      rw [List.any_eq_false]
      intro y hy
      obtain ⟨z, t, hkey⟩ := hk y (Array.mem_toList_iff.mp hy)
      simp [DictEntry.refKey, hkey]
    have a' : ¬ es.toList.any (·.refKey) = true := by rw [a]; exact Bool.false_ne_true
    rw [if_neg a']
    exact congrArg some e

theorem ObjM.look {h : Heap} {x dx C : Addr} {mA : Str → Option Value} (I : ObjM h x dx C mA) : ∃ od, PySem.W.InstAt h x (PySem.W.instObj C dx) C (some od) ∧ ∀ name, PySem.W.lookIn name od = some (mA name) :=
  let ⟨od, ho, hl⟩ := lookIn_ns I.ns
  ⟨od, ⟨I.obj, rfl, rfl, ho⟩, hl⟩

section
variable {prog : Program} {w : World} {A : Around} {E : Value → Shared → Prop} {s : Shared} {K : PySem.W.Frag} {x dx C f : Addr} {mA : Str → Option Value} {name : Str} {v : Value}

theorem get_map {expr : Bool} {Q : Value → Shared → Prop} (X : K.In s.heap) (I : ObjM s.heap x dx C mA) (hg : PySem.W.plainGet K C name = true) (hh : PySem.W.hasDictIn K C = true)
    (ha : PySem.W.findIn K (.ref C) name = some none) (hv : mA name = some v) (hv' : PySem.W.handedIn v = true) (h : Q v { s with toks := s.toks + 1 }) :
    wpAny (model prog w) A (getAttr (.ref x) name expr) Q E s := by
  obtain ⟨od, J, hl⟩ := I.look
  exact PySem.W.get_value X J (PySem.W.plainGet_of hg).1 (PySem.W.findObj_own hh ha rfl (by rw [hl, hv])) hv' h

theorem get_meth {pl : Sem Bool} {Q : Value × List Value → Shared → Prop} (X : K.In s.heap) (I : ObjM s.heap x dx C mA) (hg : PySem.W.plainGet K C name = true)
    (hf : PySem.W.findIn K (.ref C) name = some (some (.ref f))) (ht : PySem.W.isFn K (.ref f) = true) (hv : mA name = none) (h : Q (.ref f, [.ref x]) s) :
    wpAny (model prog w) A (getMethod (.ref x) name pl) Q E s := by
  obtain ⟨od, J, hl⟩ := I.look
  exact PySem.W.method_fn X J (PySem.W.plainGet_of hg).1 (PySem.W.plainGet_of hg).2 hf (beq_iff_eq.mp ht) (by show (PySem.W.lookIn name od).map (·.isSome) = some false; rw [hl, hv]; rfl) h

theorem set_map {ns : List Str} {Q : Unit → Shared → Prop} (X : K.In s.heap) (I : ObjM s.heap x dx C mA)
    (hs : PySem.W.findIn K (.ref C) "__setattr__" = some (some (.builtin "object.__setattr__"))) (hp : PySem.W.plainOver K C = true) (ht : PySem.W.takerIn K C name = some none) (hh : PySem.W.hasDictIn K C = true)
    (hw : PySem.Within mA ns) (hsz : ns.length ≤ sizeLine)
    (h : ∀ h', ObjM h' x dx C (fun y => if y = name then some v else mA y) → Heap.SameBut dx s.heap h' → Q () { s with heap := h', toks := s.toks + 2 }) :
    wpAny (model prog w) A (setAttr (.ref x) name v) Q E s := by
  obtain ⟨od, J, hl⟩ := I.look
  refine PySem.W.set_plain X J hs (PySem.W.osa_open (s := { s with toks := s.toks + 1 }) (r := none) X J hp ht fun b => ?_)
  obtain ⟨cd, hc, hd'⟩ := PySem.W.any_some hh
  have hx : s.heap.get? x = some ⟨.ref C, some dx, .plain, #[]⟩ := I.obj
  refine wpAny_bind (wpAny_pure (wpAny_bind (wpAny_bind (wpAny_loadPart hx (wpAny_bind (PySem.W.Looks.here (s := { s with toks := s.toks + 1 }) (PySem.W.looks_clsIn X hc) ?_))))))
  rw [hd']
  refine wpAny_pure (a := some dx) (wpAny_bind (wpAny_pure (wpAny_bind ?_)))
  refine wpAny_nsSet1 (s := { s with toks := s.toks + 1 }) I.ns fun h' hn2 hs2 => ?_
  obtain ⟨oD, esD, epD, hoD, hdD, hcD⟩ := hn2.count (PySem.Within.cons name v hw)
  refine wpAny_bind (wpAny_lookBehind hoD (by rw [hdD]; exact pastItsLine_dict (Nat.le_trans hcD (by rw [List.length_cons]; omega))) ?_)
  exact wpAny_pure (h _ ⟨(hs2.2 _ (Ne.symm I.ne)).trans I.obj, hn2, I.ne⟩ hs2)

/-- C(..): the dict at the heap's end, the instance behind it; then its __init__ -/
theorem make_map {R : Result → Shared → Prop} {vs : List Value} {kw : List (Str × Value)} (X : K.In s.heap) (hm : PySem.W.makesIn K C = true)
    (hi : PySem.W.findIn K (.ref C) "__init__" = some (some (.ref f))) (hf : PySem.W.typeIn K (.ref f) = some (.type "function"))
    (h : codeAny (model prog w) (A.under (.builtin "type.__call__" ⟨.ref C :: vs, kw⟩)) (.call (.ref f) ⟨.ref (s.heap.objs.size + 1) :: vs, kw⟩) (PySem.W.InitBack (s.heap.objs.size + 1) R)
      { s with heap := (s.heap.push PySem.W.emptyDict).push (PySem.W.instObj C s.heap.objs.size) }) :
    codeAny (model prog w) A (.call (.ref C) ⟨vs, kw⟩) R s := by
  obtain ⟨hh, g, d, t, os⟩ := s
  exact PySem.W.make_core (PySem.W.makes_of X hm) (PySem.W.looks_findIn X hi) (fun self => PySem.W.bind_fn X self hf) (.inl rfl) h
end

/-! ### the attributes as a list of pairs -/
def putF (f : Str) (v : V) : List (Str × V) → List (Str × V)
  | [] => [(f, v)]
  | (g, x) :: r => if g = f then (g, v) :: r else (g, x) :: putF f v r
theorem lookup_putF (f g : Str) (v : V) : ∀ fs : List (Str × V), (putF f v fs).lookup g = if g = f then some v else fs.lookup g
  | [] => by
    show List.lookup g [(f, v)] = _
    by_cases h : g = f
    · have hb : (g == f) = true := beq_iff_eq.mpr h
      simp only [List.lookup, hb, if_pos h]
    · have hb : (g == f) = false := beq_eq_false_iff_ne.mpr h
      simp only [List.lookup, hb, if_neg h]
  | (k, x) :: r => by
    have ih := lookup_putF f g v r
    rw [show putF f v ((k, x) :: r) = (if k = f then (k, v) :: r else (k, x) :: putF f v r) from rfl]
    by_cases hk : k = f
    · rw [if_pos hk]
      by_cases h : g = k
      · have hb : (g == k) = true := beq_iff_eq.mpr h
        simp only [List.lookup, hb, if_pos (h.trans hk)]
      · have hb : (g == k) = false := beq_eq_false_iff_ne.mpr h
        simp only [List.lookup, hb, if_neg (fun e : g = f => h (e.trans hk.symm))]
    · rw [if_neg hk]
      by_cases h : g = k
      · have hb : (g == k) = true := beq_iff_eq.mpr h
        simp only [List.lookup, hb, if_neg (fun e : g = f => hk (h.symm.trans e))]
      · have hb : (g == k) = false := beq_eq_false_iff_ne.mpr h
        simp only [List.lookup, hb]
        exact ih
theorem keys_putF (f : Str) (v : V) : ∀ fs : List (Str × V), f ∈ (putF f v fs).map (·.1) ∧ ∀ g, g ∈ fs.map (·.1) → g ∈ (putF f v fs).map (·.1)
  | [] => ⟨by simp [putF], fun g h => by simp at h⟩
  | (k, x) :: r => by
    obtain ⟨i1, i2⟩ := keys_putF f v r
    rw [show putF f v ((k, x) :: r) = (if k = f then (k, v) :: r else (k, x) :: putF f v r) from rfl]
    by_cases hk : k = f
    · rw [if_pos hk]
      subst hk
      exact ⟨by simp, fun g h => by simpa using h⟩
    · rw [if_neg hk]
      refine ⟨?_, fun g h => ?_⟩
      · rw [List.map_cons]
        exact List.mem_cons_of_mem _ i1
      · rw [List.map_cons] at h ⊢
        rcases List.mem_cons.mp h with e | e
        · exact List.mem_cons.mpr (.inl e)
        · exact List.mem_cons_of_mem _ (i2 g e)
theorem length_putF (f : Str) (v : V) : ∀ fs : List (Str × V), (putF f v fs).length ≤ fs.length + 1
  | [] => by simp [putF]
  | (k, x) :: r => by
    have ih := length_putF f v r
    rw [show putF f v ((k, x) :: r) = (if k = f then (k, v) :: r else (k, x) :: putF f v r) from rfl]
    by_cases hk : k = f
    · rw [if_pos hk, List.length_cons, List.length_cons]; omega
    · rw [if_neg hk, List.length_cons, List.length_cons]; omega

theorem RelO.some_of {v : V} {o : Option Value} (r : RelO (some v) o) : ∃ u, o = some u ∧ RelV v u := by
  cases o with
  | none => exact (show False from r).elim
  | some u => exact ⟨u, rfl, r⟩
theorem RelO.none_of {o : Option Value} (r : RelO none o) : o = none := by
  cases o with
  | none => rfl
  | some u => exact (show False from r).elim
theorem handed_of {v : V} {u : Value} (r : RelV v u) : PySem.W.handedIn u = true := by
  cases v with
  | non => cases (show u = Value.none from r); rfl
  | bl b => cases (show u = Value.bool b from r); rfl
  | int i => obtain ⟨t, e⟩ := (show ∃ t, u = Value.int i t from r); cases e; rfl
  | str x => obtain ⟨t, e⟩ := (show ∃ t, u = Value.str x t from r); cases e; rfl
  | byt b => obtain ⟨t, e⟩ := (show ∃ t, u = Value.bytes b t from r); cases e; rfl
  | flt b => obtain ⟨t, e⟩ := (show ∃ t, u = Value.float b t from r); cases e; rfl
  | ref a => cases (show u = Value.ref a from r); rfl
  | ty n => cases (show u = Value.type n from r); rfl

section
variable {P : Program} {w : World} {H H' : Hp} {h h' : Heap} {a C dx : Addr} {fs fs' : List (Str × V)}
theorem ins_get (hok : HOk P w H h) (e : H a = some (.ins C dx fs)) : ∃ mA, ObjM h a dx C mA ∧ (∀ f, RelO (fs.lookup f) (mA f)) ∧ PySem.Within mA (fs.map (·.1)) ∧ fs.length ≤ 1000 ∧ H dx = some (.own a) := by
  obtain ⟨d, z, ne, ob, mA, n, r, q⟩ := (show ObjOk P w H h a (.ins C dx fs) from hok a _ e)
  exact ⟨mA, ⟨ob, n, ne⟩, r, q, z, d⟩
end

/-! ### what of the text a class must have -/
structure Cls (K : PySem.W.Frag) (C : Addr) : Prop where
  pg : PySem.W.plainGet K C Str.empty = true
  hd : PySem.W.hasDictIn K C = true
  po : PySem.W.plainOver K C = true
  sa : PySem.W.findIn K (.ref C) "__setattr__" = some (some (.builtin "object.__setattr__"))
theorem Cls.get {K : PySem.W.Frag} {C : Addr} (c : Cls K C) (f : Str) : PySem.W.plainGet K C f = true := c.pg
/-- no class of it has the name -/
def NoAttr (K : PySem.W.Frag) (C : Addr) (f : Str) : Prop := PySem.W.findIn K (.ref C) f = some none
theorem NoAttr.taker {K : PySem.W.Frag} {C : Addr} {f : Str} (n : NoAttr K C f) : PySem.W.takerIn K C f = some none := by
  unfold PySem.W.takerIn
  rw [show PySem.W.findIn K (.ref C) f = some none from n]
  rfl
/-- a constant of the class -/
structure Con (K : PySem.W.Frag) (C : Addr) (f : Str) (v : V) (u : Value) : Prop where
  at_ : PySem.W.findIn K (.ref C) f = some (some u)
  rel : RelV v u
  get : PySem.W.specialIn K u "__get__" = some none
  cp : PySem.W.copiedNames.contains f = false
/-- a method: a plain def of the class or of one above it -/
structure Meth (K : PySem.W.Frag) (C : Addr) (m : Str) (f : Addr) : Prop where
  at_ : PySem.W.findIn K (.ref C) m = some (some (.ref f))
  fn : PySem.W.isFn K (.ref f) = true
  kp : PySem.W.keepIn K (.ref f) = true

section
variable {X : Cx} {pins : List (Addr × Obj)} {σ : St} {H : Hp} {s : Shared} {a C dx : Addr} {fs : List (Str × V)} {f : Str} {v : V} {A : Around} {E : Value → Shared → Prop}

theorem getattr_ok {b : Bool} {Q : Value → Shared → Prop} (I : Inv X pins σ H s) (e : H a = some (.ins C dx fs)) (c : Cls X.K C) (n : NoAttr X.K C f) (l : fs.lookup f = some v)
    (h : ∀ u s', Inv X pins σ H s' → RelV v u → Q u s') : wpAny (model X.prog X.w) A (getAttr (.ref a) f b) Q E s := by
  obtain ⟨mA, O, r, _, _, _⟩ := ins_get I.hok e
  obtain ⟨u, hu, ru⟩ := RelO.some_of (v := v) (o := mA f) (by rw [← l]; exact r f)
  exact get_map I.kIn O (c.get f) c.hd n hu (handed_of ru) (h u _ (I.tok _) ru)

theorem getmeth_ok {m : Str} {g : Addr} {pl : Sem Bool} {Q : Value × List Value → Shared → Prop} (I : Inv X pins σ H s) (e : H a = some (.ins C dx fs)) (c : Cls X.K C) (k : Meth X.K C m g) (l : fs.lookup m = none)
    (h : Q (.ref g, [.ref a]) s) : wpAny (model X.prog X.w) A (getMethod (.ref a) m pl) Q E s := by
  obtain ⟨mA, O, r, _, _, _⟩ := ins_get I.hok e
  have hn : mA m = none := RelO.none_of (by rw [← l]; exact r m)
  exact get_meth I.kIn O (c.get m) k.at_ k.fn hn h

theorem setattr_ok {y : V} {u : Value} {Q : Unit → Shared → Prop} (I : Inv X pins σ H s) (e : H a = some (.ins C dx fs)) (c : Cls X.K C) (n : NoAttr X.K C f) (hl : fs.length < 1000) (ry : RelV y u)
    (h : ∀ s', Inv X pins σ (upd H a (.ins C dx (putF f y fs))) s' → Q () s') : wpAny (model X.prog X.w) A (setAttr (.ref a) f u) Q E s := by
  obtain ⟨mA, O, r, wi, _, ho⟩ := ins_get I.hok e
  have hz : (fs.map (·.1)).length ≤ sizeLine := by rw [List.length_map, sizeLine_eq]; omega
  refine set_map I.kIn O c.sa c.po n.taker c.hd wi hz fun h' O' sb => h _ ?_
  have hd : ∃ o, h'.get? dx = some o := let ⟨o, _, _, e', _⟩ := O'.ns; ⟨o, e'⟩
  refine I.write (x := a) (e := dx) (by rw [e]; exact True.intro) (.inr ho) (fun b q hb z => (sb.2 b hb).trans z) hd ?_
  refine ⟨by rw [upd_ne O.ne]; exact ho, ?_, O.ne, O'.obj, _, O'.ns, fun g => ?_, fun g hg => ?_⟩
  · have := length_putF f y fs; omega
  · show RelO ((putF f y fs).lookup g) (if g = f then some u else mA g)
    rw [lookup_putF]
    by_cases q : g = f
    · rw [if_pos q, if_pos q]; exact ry
    · rw [if_neg q, if_neg q]; exact r g
  · by_cases q : g = f
    · rw [q]; exact (keys_putF f y fs).1
    · refine (keys_putF f y fs).2 g (wi g fun z => hg ?_)
      show (if g = f then some u else mA g) = none
      rw [if_neg q]; exact z

/-- a new instance, tracked, without attributes -/
theorem Inv.made (I : Inv X pins σ H s) : Inv X pins σ (upd (upd H s.heap.objs.size (.own (s.heap.objs.size + 1))) (s.heap.objs.size + 1) (.ins C s.heap.objs.size []))
    { s with heap := (s.heap.push PySem.W.emptyDict).push (PySem.W.instObj C s.heap.objs.size) } := by
  have e1 : (s.heap.push PySem.W.emptyDict).get? s.heap.objs.size = some PySem.W.emptyDict := Heap.get?_push_size s.heap rfl
  have e2 : ((s.heap.push PySem.W.emptyDict).push (PySem.W.instObj C s.heap.objs.size)).get? (s.heap.objs.size + 1) = some (PySem.W.instObj C s.heap.objs.size) := by
    have := Heap.get?_push_size (s.heap.push PySem.W.emptyDict) (o := PySem.W.instObj C s.heap.objs.size) rfl
    rwa [Heap.size_push] at this
  have e3 : (s.heap.push PySem.W.emptyDict).Ns s.heap.objs.size (fun _ => none) := ⟨PySem.W.emptyDict, #[], _, e1, rfl, (fun e he => absurd he (by simp)), fun _ => rfl⟩
  have I1 := I.laid (a := s.heap.objs.size) (o := .own (s.heap.objs.size + 1)) (h' := s.heap.push PySem.W.emptyDict) (t' := s.toks) (fun b u q => Heap.get?_push_of_some _ q) (Nat.le_refl _) ⟨_, e1⟩
  refine I1.laid (a := s.heap.objs.size + 1) (o := .ins C s.heap.objs.size []) (t' := s.toks) (fun b u q => Heap.get?_push_of_some _ q) (Nat.le_of_eq (Heap.size_push _ _)) ?_
  have ne : s.heap.objs.size ≠ s.heap.objs.size + 1 := Nat.ne_of_lt (Nat.lt_succ_self _)
  refine ⟨by rw [upd_ne ne, upd_same], Nat.zero_le _, ne, e2, fun _ => none, (Heap.Ns1.of_empty e3).at fun o q => Heap.get?_push_of_some _ q, fun _ => True.intro, fun y hy => absurd rfl hy⟩

/-- e.f where nothing but the object is asked: through attributeBase (super) and the last hold -/
theorem attr_of {prog : Program} {w : World} {env : Env} {e : Expr} {f : Str} {pos : Pos} {s : Shared} {Q : Value → Shared → Prop} (hb : attributeBase e f env (eval e env) = eval e env)
    (h : wpAny (model prog w) A (eval e env) (fun o s₁ => wpAny (model prog w) A (getAttr o f true) Q E s₁) E s) : wpAny (model prog w) A (eval (.Attribute e f pos) env) Q E s :=
  Attribute_any_ h (by rw [arm_eval_Attribute, hb])
end

/-! ### readings and rules -/
/-- e.f, an attribute of the instance -/
inductive isFld (K : PySem.W.Frag) (f : Str) (x : V) (H1 : Hp) (Q : VK) : Prop
  | mk (a : Addr) (C : Addr) (dx : Addr) (fs : List (Str × V)) (v : V) (_ : x = .ref a) (_ : H1 a = some (.ins C dx fs)) (_ : Cls K C) (_ : NoAttr K C f) (_ : fs.lookup f = some v) (_ : Q v H1) : isFld K f x H1 Q
def tFld (K : PySem.W.Frag) (ta : TE) (f : Str) : TE := fun σ H Q => ta σ H fun x H1 => isFld K f x H1 Q
/-- e.f = value -/
def sFld (K : PySem.W.Frag) (ta tv : TE) (f : Str) : TS := fun D σ H => tv σ H fun y H1 => ta σ H1 fun x H2 => ∃ a C dx fs, x = .ref a ∧ H2 a = some (.ins C dx fs) ∧ Cls K C ∧ NoAttr K C f ∧ fs.length < 1000 ∧
  D.nx σ (upd H2 a (.ins C dx (putF f y fs)))
section
variable {X : Cx} {o e value : Expr} {f : Str} {pos pos' tpos : Pos} {ta tv : TE}
theorem pe_fld (he : PE X e ta) (hb : attributeBase e f X.env (eval e X.env) = eval e X.env) : PE X (.Attribute e f pos) (tFld X.K ta f) := by
  intro pins s σ H Q I h
  refine attr_of hb (thn (he pins s σ H _ I h) fun u s1 ⟨x, H1, I1, rx, a, C, dx, fs, v, ex, ea, c, n, l, q⟩ => ?_)
  subst ex
  obtain rfl : u = Value.ref a := rx
  exact getattr_ok I1 ea c n l fun u' s2 I2 ru => ⟨v, H1, I2, ru, q⟩
theorem ps_fld (ha : PE X o ta) (hv : PE X value tv) (hs : swapsWith value (some (.Attribute o f pos')) pos.line X.env = pure false) : PS X (.Assign [.Attribute o f pos'] value pos) (sFld X.K ta tv f) := by
  intro pins s σ H D I h
  refine plainObj_wpAny_Assign_Attribute (thn (hv pins s σ H _ I h) fun u s1 ⟨y, H1, I1, ry, q⟩ => thn (ha pins s1 σ H1 _ I1 q) fun ov s2 ⟨x, H2, I2, rx, a, C, dx, fs, ex, ea, c, n, l, q2⟩ => ?_) hs
  subst ex
  obtain rfl : ov = Value.ref a := rx
  exact setattr_ok I2 ea c n l ry fun s3 I3 => ⟨σ, _, I3, q2⟩
/-- what is between an instance and its method: the tree of a method call -/
theorem methcall_of {pl : Sem Bool} {m : Str} {apos : Pos} {args : List Expr} {pins : List (Addr × Obj)} {s : Shared} {σ : St} {H : Hp} {Q : Value → Shared → Prop} {te : TE} (he : PE X e te) (I : Inv X pins σ H s)
    (h : te σ H fun x H1 => ∃ a C dx fs g, x = .ref a ∧ H1 a = some (.ins C dx fs) ∧ Cls X.K C ∧ Meth X.K C m g ∧ fs.lookup m = none ∧
      ∀ s1, Inv X pins σ H1 s1 → wpAny (model X.prog X.w) X.A (callWith pos (.ref g) [.ref a] (backTo pos (starEach args X.env)) (backToKw pos (keywordEach [] X.env))) Q X.xe s1)
    (ht : eval (.Call (.Attribute e m apos) args [] pos) X.env = (do
      let ov ← eval e X.env
      standAt apos.atName
      let (f, first) ← holding [ov] (getMethod ov m pl)
      callWith pos f first (backTo pos (starEach args X.env)) (backToKw pos (keywordEach [] X.env)))) :
    wpAny (model X.prog X.w) X.A (eval (.Call (.Attribute e m apos) args [] pos) X.env) Q X.xe s := by
  refine PySem.W.methodCall_KW (pl := pl) (thn (he pins s σ H _ I h) fun u s1 ⟨x, H1, I1, rx, a, C, dx, fs, g, ex, ea, c, k, l, q⟩ => ?_) ht
  subst ex
  obtain rfl : u = Value.ref a := rx
  exact getmeth_ok I1 ea c k l (q s1 I1)
end

/-! ### isinstance -/
section
variable {X : Cx} {pins : List (Addr × Obj)} {σ : St} {H : Hp} {s : Shared} {A : Around} {E : Value → Shared → Prop} {Q : Value → Shared → Prop} {c : Value} {b : Bool}
/-- the type of a value, as the fragment's deciders take it; for an instance its class -/
inductive TyOf (K : PySem.W.Frag) (H : Hp) : V → Value → Prop where
  | non : TyOf K H .non (.type "NoneType")
  | bl (x : Bool) : TyOf K H (.bl x) (.type "bool")
  | int (i : Int) : TyOf K H (.int i) (.type "int")
  | str (x : Str) : TyOf K H (.str x) (.type "str")
  | flt (x : UInt64) : TyOf K H (.flt x) (.type "float")
  | lst {a : Addr} {xs : List V} (e : H a = some (.lst xs)) : TyOf K H (.ref a) (.type "list")
  | frz {a : Addr} {o : Obj} {xs : List V} (e : H a = some (.frz o (.lst xs))) : TyOf K H (.ref a) (.type "list")
  | tup {a : Addr} {xs : List V} (e : H a = some (.tup xs)) : TyOf K H (.ref a) (.type "tuple")
  | dK {a : Addr} {kvs : List (Key × V)} (e : H a = some (.dK kvs)) : TyOf K H (.ref a) (.type "dict")
  | dT {a : Addr} {kvs : List (List Key × V)} (e : H a = some (.dT kvs)) : TyOf K H (.ref a) (.type "dict")
  | ins {a C dx : Addr} {fs : List (Str × V)} (e : H a = some (.ins C dx fs)) (cl : Cls K C) (ha : PySem.W.findIn K (.ref C) "__class__" = some (some (.builtin "object.__class__")))
      (hn : PySem.W.specialIn K (.builtin "object.__class__") "__get__" = some (some (.builtin "getset_descriptor.__get__"))) (htk : PySem.W.takesIn K (.builtin "object.__class__") = some true)
      (hm : PySem.W.mroIn K C (.type "object") = some true) : TyOf K H (.ref a) (.ref C)
/-- isinstance(x, c) for one class c, a built-in or an own one: kitOne's answer -/
theorem isinst_ok {x : V} {u t : Value} (I : Inv X pins σ H s) (rx : RelV x u) (ty : TyOf X.K H x t) (e : PySem.W.kitOne X.K t c = some b) (h : ∀ tk, Q (.bool b) { s with toks := tk }) :
    wpAny (model X.prog X.w) A (call (.builtin "isinstance") [u, c]) Q E s := by
  cases ty with
  | non => cases (show u = Value.none from rx); exact PySem.W.kia_one PySem.W.kitx_none I.kIn True.intro e (fun z => nomatch z) h
  | bl y => cases (show u = Value.bool y from rx); exact PySem.W.kia_one PySem.W.kitx_bool I.kIn True.intro e (fun z => nomatch z) h
  | int i => obtain ⟨t, q⟩ := (show ∃ t, u = Value.int i t from rx); cases q; exact PySem.W.kia_one PySem.W.kitx_int I.kIn True.intro e (fun z => nomatch z) h
  | str y => obtain ⟨t, q⟩ := (show ∃ t, u = Value.str y t from rx); cases q; exact PySem.W.kia_one PySem.W.kitx_str I.kIn True.intro e (fun z => nomatch z) h
  | flt y => obtain ⟨t, q⟩ := (show ∃ t, u = Value.float y t from rx); cases q; exact PySem.W.kia_one PySem.W.kitx_float I.kIn True.intro e (fun z => nomatch z) h
  | @lst a xs ea =>
    cases (show u = Value.ref a from rx)
    obtain ⟨_, _, n, _, h1⟩ := (show ObjOk X.prog X.w H s.heap a (.lst xs) from I.hok a _ ea)
    exact PySem.W.kia_one PySem.W.kitx_list I.kIn ⟨_, h1, rfl⟩ e (fun z => nomatch z) h
  | @frz a ob xs ea =>
    cases (show u = Value.ref a from rx)
    obtain ⟨_, _, _, n, _, h1⟩ := (show ObjOk X.prog X.w H s.heap a (.frz ob (.lst xs)) from I.hok a _ ea)
    exact PySem.W.kia_one PySem.W.kitx_list I.kIn ⟨_, h1, rfl⟩ e (fun z => nomatch z) h
  | @tup a xs ea =>
    cases (show u = Value.ref a from rx)
    obtain ⟨_, _, _, p⟩ := (show ObjOk X.prog X.w H s.heap a (.tup xs) from I.hok a _ ea)
    obtain ⟨o, h1, h2, _⟩ := p
    exact PySem.W.kia_one PySem.W.kitx_tuple I.kIn ⟨o, h1, h2⟩ e (fun z => nomatch z) h
  | @dK a kvs ea =>
    cases (show u = Value.ref a from rx)
    obtain ⟨_, _, vs, _, p⟩ := (show ObjOk X.prog X.w H s.heap a (.dK kvs) from I.hok a _ ea)
    obtain ⟨o, es, ep, h1, h2, _⟩ := p
    exact PySem.W.kia_one PySem.W.kitx_dict I.kIn ⟨o, h1, h2.1⟩ e (fun z => nomatch z) h
  | @dT a kvs ea =>
    cases (show u = Value.ref a from rx)
    obtain ⟨_, _, xs, _, o, es, ep, h1, h2, _⟩ := (show ObjOk X.prog X.w H s.heap a (.dT kvs) from I.hok a _ ea)
    exact PySem.W.kia_one PySem.W.kitx_dict I.kIn ⟨o, h1, h2.1⟩ e (fun z => nomatch z) h
  | @ins a C dx fs ea cl ha hn htk hm =>
    cases (show u = Value.ref a from rx)
    obtain ⟨mA, O, _⟩ := ins_get I.hok ea
    obtain ⟨od, J, _⟩ := O.look
    exact PySem.W.kia_one (PySem.W.kitx_own (cl.get _) cl.hd ha hn htk hm) I.kIn J e (fun z => nomatch z) h
end
end L2

namespace L2
open PySem PySem.Spec PyProof.Rows

/-! ### room -/
structure Room (cm : Bool) (k : Nat) (A : Around) : Prop where
  hd : cm = true → A.handled = none
  dp : A.depth + 3 * k + 5 < recursionLimit
  un : A.units + 16 * k + 200 < cLine
theorem Room.mono {cm : Bool} {j k : Nat} {A : Around} (r : Room cm k A) (h : j ≤ k) : Room cm j A := ⟨r.hd, by have := r.dp; omega, by have := r.un; omega⟩
theorem Room.deeper {cm : Bool} {k : Nat} {A : Around} (r : Room cm (k + 1) A) (env : Env) : Room cm k (A.deeper env) :=
  ⟨r.hd, by have := r.dp; show A.depth + 1 + 3 * k + 5 < _; omega, by have := r.un; show A.units + 3 + 16 * k + 200 < _; omega⟩
theorem make_depth {A : Around} {C : Addr} {us : List Value} {kw : List (Str × Value)} : (A.under (.builtin "type.__call__" ⟨.ref C :: us, kw⟩)).depth = A.depth + 1 := by
  first | rfl | simp [Around.under, Code.weight, Code.isCreation, Code.isGuard, Code.isCaller, Code.frames, Code.isFrame, guardIds]
theorem make_units {A : Around} {C : Addr} {us : List Value} {kw : List (Str × Value)} : (A.under (.builtin "type.__call__" ⟨.ref C :: us, kw⟩)).units = A.units + 1 := by
  first | rfl | simp [Around.under, Code.cUnits, Code.frames, Code.isFrame]
theorem Room.make {cm : Bool} {k : Nat} {A : Around} (r : Room cm (k + 1) A) (C : Addr) (us : List Value) (kw : List (Str × Value)) : Room cm k (A.under (.builtin "type.__call__" ⟨.ref C :: us, kw⟩)) :=
  ⟨r.hd, by have := r.dp; rw [make_depth]; omega, by have := r.un; rw [make_units]; omega⟩
theorem Room.depth {cm : Bool} {k : Nat} {A : Around} (r : Room cm k A) : A.depth < recursionLimit := by have := r.dp; omega
theorem Room.units {cm : Bool} {k : Nat} {A : Around} (r : Room cm k A) : A.units + 64 < cLine := by have := r.un; omega
/-! ### argument lists and displays -/
def tNil : TA := fun _ H Q => Q [] H
def tCons (ta : TE) (tr : TA) : TA := fun σ H Q => ta σ H fun x H1 => tr σ H1 fun xs H2 => Q (x :: xs) H2
section
variable {X : Cx} {e : Expr} {es : List Expr} {te : TE} {t : TA} {pos : Pos}
theorem pa_nil : PA X [] tNil := fun _ _ _ _ H Q I h => Calls.spliced_nil ⟨[], H, I, .nil, h⟩
theorem pa_cons (ha : PE X e te) (hr : PA X es t) (hs : starEach (e :: es) X.env = (false, eval e X.env) :: starEach es X.env := by rfl) : PA X (e :: es) (tCons te t) := by
  intro pos pins s σ H Q I h
  rw [hs]
  show wpAny _ _ (spliced ((false, eval e X.env) :: backTo pos (starEach es X.env))) _ _ s
  refine Calls.spliced_cons (thn (ha pins s σ H _ I h) fun u s1 ⟨x, H1, I1, r1, q1⟩ => ?_)
  exact thn (hr pos pins s1 σ H1 _ I1 q1) fun us s2 ⟨xs, H2, I2, r2, q2⟩ => ⟨x :: xs, H2, I2, .cons r1 r2, q2⟩

/-- a tuple, a list of written items -/
def tTup (t : TA) : TE := fun σ H Q => t σ H fun xs H1 => xs.length ≤ sizeLine ∧ ∀ p, H1 p = none → Q (.ref p) (upd H1 p (.tup xs))
def tLst (t : TA) : TE := fun σ H Q => t σ H fun xs H1 => xs.length ≤ sizeLine ∧ ∀ p, H1 p = none → Q (.ref p) (upd H1 p (.lst xs))
theorem pe_tup {x1} (h : PA X es t) : PE X (.Tuple es x1 pos) (tTup t) := by
  intro pins s σ H Q I hq
  refine wpAny_Tuple_spliced (thn (h pos pins s σ H _ I hq) fun us s1 ⟨xs, H1, I1, r, z, q⟩ => ⟨by rw [← r.length]; exact z, ?_⟩)
  have hf : H1 s1.heap.objs.size = none := I1.hok.fresh (Nat.le_refl _)
  refine ⟨.ref s1.heap.objs.size, upd H1 s1.heap.objs.size (.tup xs), I1.laid (t' := s1.toks) (fun b u e => Heap.get?_push_of_some _ e) (Nat.le_refl _) ?_, rfl, q _ hf⟩
  exact ⟨z, us, r, ⟨_, Heap.get?_push_size _ rfl, rfl, _, rfl⟩⟩
theorem pe_lst (h : PA X es t) : PE X (.List es pos) (tLst t) := by
  intro pins s σ H Q I hq
  refine wpAny_List_spliced (thn (h pos pins s σ H _ I hq) fun us s1 ⟨xs, H1, I1, r, z, q⟩ => ⟨by rw [← r.length]; exact z, ?_⟩)
  have hf : H1 s1.heap.objs.size = none := I1.hok.fresh (Nat.le_refl _)
  refine ⟨.ref s1.heap.objs.size, upd H1 s1.heap.objs.size (.lst xs), I1.laid (t' := s1.toks) (fun b u e => Heap.get?_push_of_some _ e) (Nat.le_refl _) ?_, rfl, q _ hf⟩
  exact ⟨z, us, 0, r, Heap.get?_push_size _ rfl⟩
end

/-! ### what a def promises -/
/-- a def's promise: the bound arguments in the parameters' order, the heap, the wanted end, the wanted exception -/
abbrev Sp := List V → Hp → VK → XK → Prop
/-- how an exception lies behind a call (file 08 gives it): the callers' frames, abstract heap and state ahead of the call, the wish, the exception, the state -/
abbrev CXT := List Env → Hp → Shared → XK → Value → Shared → Prop

/-- the state at a call -/
structure Env0 (P : Program) (w : World) (K : PySem.W.Frag) (mg : Str → Option Value) (base : Heap) (A : Around) (outer : List Env) (s : Shared) (H : Hp) : Prop where
  frames : A.frames = some outer
  mod : Mod K mg base
  bs : ∀ b o, base.get? b = some o → s.heap.get? b = some o ∧ H b = none
  bsz : base.objs.size ≤ s.heap.objs.size
  funs : s.heap.FunFrames base outer
  frf : ∀ b ∈ frs outer, H b = none
  hok : HOk P w H s.heap
  bare : AllBare s.gens
/-- a call's end -/
def CE (outer : List Env) (P : Program) (w : World) (H : Hp) (s : Shared) (Q : VK) (u : Value) (s' : Shared) : Prop :=
  ∃ v H', s'.os = s.os ∧ AllBare s'.gens ∧ Un (frs outer) [] H H' s.heap s'.heap ∧ HOk P w H' s'.heap ∧ RelV v u ∧ Q v H'
def CR (CX : CXT) (outer : List Env) (P : Program) (w : World) (H : Hp) (s : Shared) (Q : VK) (E : XK) (r : Result) (s' : Shared) : Prop :=
  match r with
  | .ok (.ret u) => CE outer P w H s Q u s'
  | .ok _ => False
  | .error e => CX outer H s E e s'
structure FnOk (P : Program) (w : World) (K : PySem.W.Frag) (mg : Str → Option Value) (base : Heap) (CX : CXT) (cm : Bool) (k : Nat) (f : Addr) (fd : FuncData) (ps : List Str) (sp : Sp) : Prop where
  len : ∀ vs H Q E, sp vs H Q E → vs.length = ps.length
  run : ∀ (A : Around) (outer : List Env) (s : Shared) (H : Hp) (args : Args) (us : List Value) (vs : List V) (Q : VK) (E : XK), Room cm k A → Env0 P w K mg base A outer s H → BindsTo s fd args (ps.zip us) → Vals vs us → sp vs H Q E →
    codeAny (model P w) A (.call (.ref f) args) (CR CX outer P w H s Q E) s
theorem Env0.make {P : Program} {w : World} {K : PySem.W.Frag} {mg : Str → Option Value} {base : Heap} {A : Around} {outer : List Env} {s : Shared} {H : Hp} (e : Env0 P w K mg base A outer s H) (C : Addr) (us : List Value) (kw : List (Str × Value)) :
    Env0 P w K mg base (A.under (.builtin "type.__call__" ⟨.ref C :: us, kw⟩)) outer s H := ⟨by first | exact e.frames | (simpa [Around.under, Code.envs, Code.isFrame, pushEnvs] using e.frames), e.mod, e.bs, e.bsz, e.funs, e.frf, e.hok, e.bare⟩
section
variable {X : Cx} {pins : List (Addr × Obj)} {σ : St} {H : Hp} {s s' : Shared}
/-- from a body: what a callee wants -/
theorem Inv.env0 (I : Inv X pins σ H s) : Env0 X.prog X.w X.K X.mg X.base X.A X.stack s H :=
  ⟨I.ok.frames, I.ok.mod, I.bs, Nat.le_trans I.ok.bsz I.sz, I.stack, I.stkFree, I.hok, I.bare⟩
/-- behind a call -/
theorem Inv.after {Q : VK} {u : Value} (I : Inv X pins σ H s) (h : CE X.stack X.prog X.w H s Q u s') : EP X pins σ Q u s' := by
  obtain ⟨v, H', os, bare, un, hok, r, q⟩ := h
  obtain ⟨hh, g, d, t, os'⟩ := s'
  obtain rfl : os' = s.os := os
  exact ⟨v, H', I.call (h' := hh) (g' := g) (d' := d) (t' := t) (ch := []) un hok bare (fun b z => absurd z (by simp)), r, q⟩
end

/-! ### calls -/
/-- f(..): the written arguments, then the defaults dvs; E: what is wanted of an exception -/
def tCall (sp : Sp) (dvs : List V) (E : St → XK) (t : TA) : TE := fun σ H Q => t σ H fun vs H1 => sp (vs ++ dvs) H1 Q (E σ)
/-- o.m(..) of an instance of the class at C -/
def tMeth (C : Addr) (m : Str) (sp : Sp) (dvs : List V) (E : St → XK) (ta : TE) (t : TA) : TE := fun σ H Q => ta σ H fun x H1 => ∃ a dx fs, x = .ref a ∧ H1 a = some (.ins C dx fs) ∧ fs.lookup m = none ∧
  t σ H1 fun vs H2 => sp (x :: (vs ++ dvs)) H2 Q (E σ)
/-- C(..): a new instance and its dict, then __init__ -/
def tMake (C : Addr) (sp : Sp) (dvs : List V) (E : St → XK) (t : TA) : TE := fun σ H Q => t σ H fun vs H1 => ∀ x dx, H1 x = none → H1 dx = none → dx ≠ x →
  sp (.ref x :: (vs ++ dvs)) (upd (upd H1 dx (.own x)) x (.ins C dx [])) (fun v H2 => v = .non ∧ Q (.ref x) H2) (E σ)

/-- how the parameters are bound: us the positional arguments, kw the keywords' values by name, ds the defaults that fill up -/
def Binds (K : PySem.W.Frag) (fd : FuncData) (ps : List Str) (ds : List Value) : Prop :=
  ∀ (s : Shared) (us : List Value), K.In s.heap → (us ++ ds).length = ps.length → BindsTo s fd ⟨us, []⟩ (ps.zip (us ++ ds))
/-- every parameter is given -/
theorem Binds.all {K : PySem.W.Frag} {fd : FuncData} {ps : List Str} (h : ∀ us : List Value, us.length = ps.length → bindArgs fd ⟨us, []⟩ = pure (ps.zip us)) : Binds K fd ps [] := fun s us _ hl => by
  rw [List.append_nil] at hl ⊢
  exact .of_eq (h us hl)

/-- an exception of a callee reaches what this body wants of exceptions -/
def Passes (CX : CXT) (X : Cx) (E : St → XK) : Prop := ∀ (pins : List (Addr × Obj)) (σ : St) (H : Hp) (s : Shared) (e : Value) (s' : Shared), Inv X pins σ H s → CX X.stack H s (E σ) e s' → X.xe e s'

section
variable {X : Cx} {CX : CXT} {cm : Bool} {k : Nat} {f C : Addr} {fd : FuncData} {ps : List Str} {sp : Sp} {dvs : List V} {ds : List Value} {E : St → XK} {x m : Str} {p pos apos : Pos} {e o : Expr} {es : List Expr} {ta : TE} {t : TA}

/-- the callee runs -/
theorem run_fn {pins : List (Addr × Obj)} {σ : St} {H : Hp} {s : Shared} {Q : VK} {us : List Value} {vs : List V} (F : FnOk X.prog X.w X.K X.mg X.base CX cm k f fd ps sp) (hr : Room cm k X.A) (hb : Binds X.K fd ps ds) (hd : Vals dvs ds) (hx : Passes CX X E)
    (I : Inv X pins σ H s) (r : Vals vs us) (h : sp (vs ++ dvs) H Q (E σ)) : wpAny (model X.prog X.w) X.A (call (.ref f) us) (EP X pins σ Q) X.xe s := by
  have r2 : Vals (vs ++ dvs) (us ++ ds) := r.append hd
  have hl : (us ++ ds).length = ps.length := by rw [← r2.length]; exact F.len _ _ _ _ h
  refine wpAny_call (codeAny_mono (F.run X.A X.stack s H ⟨us, []⟩ (us ++ ds) (vs ++ dvs) Q (E σ) hr I.env0 (hb s us I.kIn hl) r2 h) fun r s' hq => ?_)
  cases r with
  | error e => exact hx pins σ H s e s' I hq
  | ok fl =>
    cases fl with
    | ret u => exact I.after hq
    | next => exact False.elim hq
    | brk => exact False.elim hq
    | cont => exact False.elim hq

theorem pe_call (F : FnOk X.prog X.w X.K X.mg X.base CX cm k f fd ps sp) (hr : Room cm k X.A) (hg : Gl X x) (hm : X.mg x = some (.ref f)) (hk : PySem.W.keepIn X.K (.ref f) = true) (hb : Binds X.K fd ps ds) (hd : Vals dvs ds) (hx : Passes CX X E)
    (ha : PA X (e :: es) t) (hdb : (x == ("__debug__" : Str)) = false := by decide) (he : starEach (e :: es) X.env = (false, eval e X.env) :: starEach es X.env := by rfl) (hpl : (backTo pos (starEach es X.env)).any (·.1) = false := by rfl) :
    PE X (.Call (.Name x p) (e :: es) [] pos) (tCall sp dvs E t) := by
  intro pins s σ H Q I h
  refine wpAny_Call_Name_kw (ld_glob I hg hm ?_ hdb)
  refine PySem.W.callWith_K (h₀ := X.base) I.ok.mod.kin hk (thn (ha pos pins s σ H _ I h) fun us s1 ⟨vs, H1, I1, r, q⟩ => ⟨I1.kIn, ?_⟩) he hpl
  exact run_fn F hr hb hd hx I1 r q
/-- o.m(e, ..) -/
theorem pe_meth {pl : Sem Bool} (he : PE X o ta) (c : Cls X.K C) (hm : Meth X.K C m f) (F : FnOk X.prog X.w X.K X.mg X.base CX cm k f fd ps sp) (hr : Room cm k X.A) (hb : Binds X.K fd ps ds) (hd : Vals dvs ds) (hx : Passes CX X E) (ha : PA X (e :: es) t)
    (hst : starEach (e :: es) X.env = (false, eval e X.env) :: starEach es X.env := by rfl) (hpl : (backTo pos (starEach es X.env)).any (·.1) = false := by rfl)
    (ht : eval (.Call (.Attribute o m apos) (e :: es) [] pos) X.env = (do
      let ov ← eval o X.env
      standAt apos.atName
      let (f, first) ← holding [ov] (getMethod ov m pl)
      callWith pos f first (backTo pos (starEach (e :: es) X.env)) (backToKw pos (keywordEach [] X.env))) := by rfl) :
    PE X (.Call (.Attribute o m apos) (e :: es) [] pos) (tMeth C m sp dvs E ta t) := by
  intro pins s σ H Q I h
  refine PySem.W.methodCall_KW (pl := pl) (thn (he pins s σ H _ I h) fun u s1 ⟨x, H1, I1, rx, a, dx, fs, ex, ea, l, q⟩ => ?_) ht
  subst ex
  obtain rfl : u = Value.ref a := rx
  refine getmeth_ok I1 ea c hm l ?_
  refine PySem.W.callWith_K (first := [.ref a]) (h₀ := X.base) I.ok.mod.kin hm.kp (thn (ha pos pins s1 σ H1 _ I1 q) fun us s2 ⟨vs, H2, I2, r, q2⟩ => ⟨I2.kIn, ?_⟩) hst hpl
  exact run_fn (us := .ref a :: us) (vs := .ref a :: vs) F hr hb hd hx I2 (.cons rfl r) q2
/-- what a class must have to be made -/
structure Mk (K : PySem.W.Frag) (C f : Addr) : Prop where
  makes : PySem.W.makesIn K C = true
  init : PySem.W.findIn K (.ref C) "__init__" = some (some (.ref f))
  fn : PySem.W.isFn K (.ref f) = true
  kp : PySem.W.keepIn K (.ref C) = true

theorem run_make {pins : List (Addr × Obj)} {σ : St} {H : Hp} {s : Shared} {Q : VK} {us : List Value} {vs : List V} (M : Mk X.K C f) (F : FnOk X.prog X.w X.K X.mg X.base CX cm k f fd ps sp) (hr : Room cm (k + 1) X.A) (hb : Binds X.K fd ps ds) (hd : Vals dvs ds)
    (hx : Passes CX X E) (I : Inv X pins σ H s) (r : Vals vs us)
    (h : ∀ x dx, H x = none → H dx = none → dx ≠ x → sp (.ref x :: (vs ++ dvs)) (upd (upd H dx (.own x)) x (.ins C dx [])) (fun v H2 => v = .non ∧ Q (.ref x) H2) (E σ)) :
    wpAny (model X.prog X.w) X.A (call (.ref C) us) (EP X pins σ Q) X.xe s := by
  have hq := h (s.heap.objs.size + 1) s.heap.objs.size (I.hok.fresh (Nat.le_succ _)) (I.hok.fresh (Nat.le_refl _)) (Nat.ne_of_lt (Nat.lt_succ_self _))
  have I2 := Inv.made (C := C) I
  have r2 : Vals (V.ref (s.heap.objs.size + 1) :: (vs ++ dvs)) (Value.ref (s.heap.objs.size + 1) :: (us ++ ds)) := .cons rfl (r.append hd)
  have hl : (Value.ref (s.heap.objs.size + 1) :: us ++ ds).length = ps.length := by
    have e := r2.length
    rw [F.len _ _ _ _ hq] at e
    exact e.symm
  refine wpAny_call (make_map (f := f) I.kIn M.makes M.init (beq_iff_eq.mp M.fn) (codeAny_mono (F.run _ X.stack _ _ ⟨Value.ref (s.heap.objs.size + 1) :: us, []⟩ (Value.ref (s.heap.objs.size + 1) :: (us ++ ds)) _ _ (E σ) (hr.make C us [])
    (I2.env0.make C us []) (hb _ (Value.ref (s.heap.objs.size + 1) :: us) I2.kIn hl) r2 hq) fun r s' hq' => ?_))
  cases r with
  | error e => exact hx pins σ _ _ e s' I2 hq'
  | ok fl =>
    cases fl with
    | ret u =>
      obtain ⟨v, H', I3, rv, ev, q3⟩ := I2.after hq'
      subst ev
      exact ⟨rv, ⟨V.ref (s.heap.objs.size + 1), H', I3, rfl, q3⟩⟩
    | next => exact False.elim hq'
    | brk => exact False.elim hq'
    | cont => exact False.elim hq'
theorem pe_make (M : Mk X.K C f) (F : FnOk X.prog X.w X.K X.mg X.base CX cm k f fd ps sp) (hr : Room cm (k + 1) X.A) (hg : Gl X x) (hm : X.mg x = some (.ref C)) (hb : Binds X.K fd ps ds) (hd : Vals dvs ds) (hx : Passes CX X E)
    (ha : PA X (e :: es) t) (hdb : (x == ("__debug__" : Str)) = false := by decide) (he : starEach (e :: es) X.env = (false, eval e X.env) :: starEach es X.env := by rfl) (hpl : (backTo pos (starEach es X.env)).any (·.1) = false := by rfl) :
    PE X (.Call (.Name x p) (e :: es) [] pos) (tMake C sp dvs E t) := by
  intro pins s σ H Q I h
  refine wpAny_Call_Name_kw (ld_glob I hg hm ?_ hdb)
  refine PySem.W.callWith_K (h₀ := X.base) I.ok.mod.kin M.kp (thn (ha pos pins s σ H _ I h) fun us s1 ⟨vs, H1, I1, r, q⟩ => ⟨I1.kIn, ?_⟩) he hpl
  exact run_make M F hr hb hd hx I1 r q
end

/-! ### keywords -/
section
variable {X : Cx} {CX : CXT} {cm : Bool} {k : Nat} {f C : Addr} {fd : FuncData} {ps ks : List Str} {sp : Sp} {E : St → XK} {x m : Str} {p pos apos kpos : Pos} {e o : Expr} {es : List Expr} {kws : List Keyword} {te ta : TE} {t tk : TA} {nm : Option Str}
variable {g : List Value → List Value → List Value} {gV : List V → List V → List V}
end

/-! ### a def's body keeps its promise -/
/-- names: the parameters first -/
structure FnScope (N P : List Str) (sc : Scope) : Prop where
  kind : sc.kind = .function
  co : sc.isCoroutine = false
  gen : sc.isGenerator = false
  nd : N.Nodup
  pre : N.take P.length = P
  par : ∀ x ∈ P, sc.names.lookup x = some .local ∨ sc.names.lookup x = some .cell
  nofree : ∀ y ∈ sc.names, y.2 ≠ .free

theorem bindL_out {kindOf : Str → Option NameKind} {x : Str} : ∀ {binds : List (Str × Value)} {m : Str → Option Value}, (∀ v, (x, v) ∉ binds) → bindL kindOf binds m x = m x
  | [], _, _ => rfl
  | (n, v) :: r, m, h => by
    unfold bindL
    rw [bindL_out fun w hw => h w (List.mem_cons_of_mem _ hw)]
    split
    · have : x ≠ n := by rintro rfl; exact h v List.mem_cons_self
      simp [this]
    · rfl
theorem bindC_out {kindOf : Str → Option NameKind} {x : Str} : ∀ {binds : List (Str × Value)} {m : Str → Option Value}, (∀ v, (x, v) ∉ binds) → bindC kindOf binds m x = m x
  | [], _, _ => rfl
  | (n, v) :: r, m, h => by
    unfold bindC
    rw [bindC_out fun w hw => h w (List.mem_cons_of_mem _ hw)]
    split
    · rfl
    · have : x ≠ n := by rintro rfl; exact h v List.mem_cons_self
      simp [this]
theorem bindL_get {kindOf : Str → Option NameKind} {x : Str} {v : Value} : ∀ {P : List Str} {vs : List Value} {i : Nat} {m : Str → Option Value}, P.Nodup → P[i]? = some x → vs[i]? = some v → kindOf x = some .local →
    bindL kindOf (P.zip vs) m x = some v
  | [], _, _, _, _, h, _, _ => by simp at h
  | _ :: _, [], _, _, _, _, h, _ => by simp at h
  | p :: P, w :: vs, 0, m, nd, h1, h2, hk => by
    simp at h1 h2; subst h1; subst h2
    show bindL kindOf ((p, w) :: P.zip vs) m p = _
    unfold bindL
    rw [bindL_out fun v hv => (List.nodup_cons.mp nd).1 (List.of_mem_zip hv).1, if_pos hk]
    simp
  | p :: P, w :: vs, i + 1, m, nd, h1, h2, hk => by
    show bindL kindOf ((p, w) :: P.zip vs) m x = _
    unfold bindL
    exact bindL_get (i := i) (List.nodup_cons.mp nd).2 (by simpa using h1) (by simpa using h2) hk
theorem bindC_get {kindOf : Str → Option NameKind} {x : Str} {v : Value} : ∀ {P : List Str} {vs : List Value} {i : Nat} {m : Str → Option Value}, P.Nodup → P[i]? = some x → vs[i]? = some v → kindOf x ≠ some .local →
    bindC kindOf (P.zip vs) m x = some v
  | [], _, _, _, _, h, _, _ => by simp at h
  | _ :: _, [], _, _, _, _, h, _ => by simp at h
  | p :: P, w :: vs, 0, m, nd, h1, h2, hk => by
    simp at h1 h2; subst h1; subst h2
    show bindC kindOf ((p, w) :: P.zip vs) m p = _
    unfold bindC
    rw [bindC_out fun v hv => (List.nodup_cons.mp nd).1 (List.of_mem_zip hv).1, if_neg hk]
    simp
  | p :: P, w :: vs, i + 1, m, nd, h1, h2, hk => by
    show bindC kindOf ((p, w) :: P.zip vs) m x = _
    unfold bindC
    exact bindC_get (i := i) (List.nodup_cons.mp nd).2 (by simpa using h1) (by simpa using h2) hk

/-- the names' values at the entry -/
def start (N : List Str) (vs : List V) : St := vs.map some ++ List.replicate (N.length - vs.length) none

/-- the context of a def's body, at its entry; an exception leaves the frame, then lies as CX says -/
def cxOf (CX : CXT) (cm : Bool) (P : Program) (w : World) (K : PySem.W.Frag) (mg : Str → Option Value) (base : Heap) (N : List Str) (qual : Str) (scope : Scope) (f : Addr) (cd : Value) (A : Around) (outer : List Env) (s : Shared) (H : Hp) (E : XK) : Cx where
  prog := P
  w := w
  K := K
  mg := mg
  base := base
  A := A.deeper (envOfC qual scope s.heap.objs.size f cd)
  N := N
  s₀ := s
  H₀ := H
  env := envOfC qual scope s.heap.objs.size f cd
  outer := outer
  stack := envOfC qual scope s.heap.objs.size f cd :: outer
  ex := []
  calm := cm
  fn := fun _ => true
  pn := []
  xe := fun e s' => wpAny (model P w) (A.deeper (envOfC qual scope s.heap.objs.size f cd)) (leaving (envOfC qual scope s.heap.objs.size f cd) e) (fun _ s'' => CX outer H s E e s'') (fun e' s'' => CX outer H s E e' s'') s'

theorem cell_has {sc : Scope} {n : Nat} {x : Str} (h : sc.names.lookup x = some .cell) : ∃ c, (cellsFrom n sc.names []).lookup x = some c := by
  have q := PySem.W.cellsFrom_some sc.names n [] (.inl h)
  exact Option.isSome_iff_exists.mp q

theorem inv_start {CX : CXT} {cm : Bool} {P : Program} {w : World} {K : PySem.W.Frag} {mg : Str → Option Value} {base : Heap} {N ps : List Str} {qual : Str} {scope : Scope} {f : Addr} {cd : Value} {A : Around} {outer : List Env} {s s1 : Shared} {H : Hp} {E : XK} {us : List Value} {vs : List V}
    (S : FnScope N ps scope) (hd : cm = true → A.handled = none) (e0 : Env0 P w K mg base A outer s H) (hl : vs.length = ps.length) (r : Vals vs us)
    (x : InCallC s s.heap.objs.size (bindL (envOfC qual scope s.heap.objs.size f cd).kindOf (ps.zip us) fun _ => none) (cellsFrom (s.heap.objs.size + 1) scope.names []) (bindC (envOfC qual scope s.heap.objs.size f cd).kindOf (ps.zip us) fun _ => none) s1) :
    Inv (cxOf CX cm P w K mg base N qual scope f cd A outer s H E) [] (start N vs) H s1 := by
  have hpl : ps.length ≤ N.length := by have := congrArg List.length S.pre; rw [List.length_take] at this; omega
  obtain ⟨h1, tk, rfl, hk⟩ := x.done
  have noA : ∀ b : Addr, b ∉ (cxOf CX cm P w K mg base N qual scope f cd A outer s H E).ex := fun b z => absurd (show b ∈ ([] : List Addr) from z) (by simp)
  refine ⟨⟨e0.mod, S.kind, rfl, rfl, Nat.le_refl _, fun y z c h1 h2 => ?_, fun y hy => ?_, fun y c _ h => ?_, fun z => hd z, Around.frames_deeper e0.frames, .inr ⟨rfl, rfl⟩, fun b z => absurd z (noA b), e0.bs, e0.bsz, fun b _ _ => noA b, fun b z => absurd z (noA b), e0.funs, e0.frf⟩,
    rfl, e0.bare, Un.kept hk, ⟨_, x.toInCall.ns, fun i y v h1 h2 h3 => ?_⟩, fun y c h => ⟨_, x.cell y c h⟩, e0.hok.fresh (Nat.le_refl _), fun y c h => ?_, fun p hp => absurd (show p ∈ ([] : List (Addr × Obj)) from hp) (by simp), e0.hok.kept hk, ?_⟩
  · exact name_of_addr x.apart (PySem.mem_of_lookup h1) (PySem.mem_of_lookup h2)
  · have hy : scope.names.lookup y = some .cell ∨ scope.names.lookup y = some .free := hy
    rcases hy with hy | hy
    · exact cell_has hy
    · exact absurd rfl (S.nofree _ (PySem.mem_of_lookup hy))
  · exact Nat.le_of_lt (x.above y c (PySem.mem_of_lookup h))
  · have hi : i < vs.length := by
      unfold start at h2
      by_cases hi : i < vs.length
      · exact hi
      · rw [List.getElem?_append_right (by simpa using hi)] at h2
        rw [List.getElem?_replicate] at h2
        split at h2 <;> cases h2
    have ha : vs[i]? = some v := by
      unfold start at h2
      rw [List.getElem?_append_left (by simpa using hi), List.getElem?_map] at h2
      cases e : vs[i]? with
      | none => rw [e] at h2; cases h2
      | some a => rw [e] at h2; cases h2; rfl
    obtain ⟨u, hu, rv⟩ := r.get ha
    have hp : ps[i]? = some y := by
      rw [← S.pre, List.getElem?_take_of_lt (by omega)]; exact h1
    have ndP : ps.Nodup := by rw [← S.pre]; exact S.nd.sublist (List.take_sublist _ _)
    refine ⟨u, rv, ?_⟩
    rcases S.par y (List.mem_of_getElem? hp) with k | k
    · exact .inl ⟨k, bindL_get ndP hp hu k⟩
    · obtain ⟨c, e⟩ := cell_has (n := s.heap.objs.size + 1) k
      refine .inr ⟨.inl k, c, e, ?_⟩
      have q := x.cell y c e
      rw [bindC_get ndP hp hu (by show scope.names.lookup y ≠ _; rw [k]; decide)] at q
      exact q
  · exact e0.hok.fresh (Nat.le_of_lt (x.above y c (PySem.mem_of_lookup h)))
  · unfold start
    show _ = N.length
    rw [List.length_append, List.length_map, List.length_replicate]
    omega

/-- THE RULE: a def (or a method) of the text, by its body. The body's reading t is chosen for each entry; it is run at the parameters' values -/
theorem fn_of {CX : CXT} {cm : Bool} {P : Program} {w : World} {K : PySem.W.Frag} {mg : Str → Option Value} {base : Heap} {k : Nat} {f : Addr} {name qual : Str} {params : Arguments} {body : List Stmt} {scope : Scope} {dV kV doc pm cdv ct oc : Value} {an od : Option Addr}
    {osl : Array (Option Value)} {N ps : List Str} {sp : Sp} (lk : K.lookup f = some ⟨oc, od, .func (PySem.W.fnOf name qual params body scope dV kV doc pm an cdv ct), osl⟩) (hcd : PySem.W.codeIn K cdv qual = true) (S : FnScope N ps scope)
    (len : ∀ vs H Q E, sp vs H Q E → vs.length = ps.length)
    (hbody : ∀ (A : Around) (outer : List Env) (s : Shared) (H : Hp) (vs : List V) (Q : VK) (E : XK), Room cm k (A.deeper (envOfC qual scope s.heap.objs.size f cdv)) → sp vs H Q E →
      ∃ t, PSs (cxOf CX cm P w K mg base N qual scope f cdv A outer s H E) body t ∧ t { nx := fun _ H' => Q .non H', rt := Q } (start N vs) H) :
    FnOk P w K mg base CX cm (k + 1) f (PySem.W.fnOf name qual params body scope dV kV doc pm an cdv ct) ps sp := by
  refine ⟨len, fun A outer s H args us vs Q E hr e0 hb r hsp => ?_⟩
  have hl := len _ _ _ _ hsp
  have KX : K.In s.heap := e0.mod.kin.keeps fun b o e => (e0.bs b o e).1
  have lim : s.heap.NoLimit := e0.mod.nolimit.keeps fun b o e => (e0.bs b o e).1
  have hkind : ∀ y ∈ ps.zip us, scope.names.lookup y.1 = some .local ∨ (scope.names.lookup y.1 = some .cell ∧ ((cellsFrom (s.heap.objs.size + 1) scope.names []).lookup y.1).isSome = true) := fun ⟨n, v⟩ hy => by
    rcases S.par n (List.of_mem_zip hy).1 with q | q
    · exact .inl q
    · exact .inr ⟨q, PySem.W.cellsFrom_some _ _ _ (.inl q)⟩
  refine codeAny_call_function hr.depth (KX _ _ lk) rfl S.co S.gen rfl (PySem.W.codeRec_of KX hcd) (hb _ _ _ _ ?_)
  refine wpAny_newFunctionEnv_cells S.kind hkind fun env he s1 x => ?_
  subst he
  refine ⟨lim.keeps x.toInCall.keep, codeAny_func ?_⟩
  obtain ⟨t, ht, hq⟩ := hbody A outer s H vs Q E (hr.deeper _) hsp
  have I : Inv (cxOf CX cm P w K mg base N qual scope f cdv A outer s H E) [] (start N vs) H s1 := inv_start S hr.hd e0 hl r x
  refine wpAny_mono (ht [] s1 (start N vs) H _ I hq) (fun fl s' hs => ?_) fun e s' hs => hs
  have fin : ∀ {σ' : St} {H' : Hp} {v : V} {u : Value}, Inv (cxOf CX cm P w K mg base N qual scope f cdv A outer s H E) [] σ' H' s' → RelV v u → Q v H' → CE outer P w H s Q u s' :=
    fun {σ' H' v u} J rv q => ⟨v, H', J.os, J.bare, J.base, J.hok, rv, q⟩
  cases fl with
  | ret u =>
    obtain ⟨v, σ', H', J, rv, q⟩ := hs
    exact fin J rv q
  | next =>
    obtain ⟨σ', H', J, q⟩ := hs
    exact fin (v := V.non) (u := Value.none) J rfl q
  | brk =>
    obtain ⟨_, _, _, q⟩ := hs
    exact False.elim q
  | cont =>
    obtain ⟨_, _, _, q⟩ := hs
    exact False.elim q
end L2

namespace L2
open PySem PySem.Spec PyProof.Rows
section
variable {X : Cx} {x : Str} {p pos : Pos} {e : Expr} {es : List Expr} {t : TA} {id T : String} {r : List V → Hp → VK → Prop}

def tCB (r : List V → Hp → VK → Prop) (t : TA) : TE := fun σ H Q => t σ H fun vs H1 => r vs H1 Q
/-- f(e, ..), f a built-in function -/
theorem pe_callB (hc : CallR X (.builtin id) r) (hg : Gl X x) (hm : X.mg x = none) (hv : bootBuiltins x = some (.builtin id)) (ha : PA X (e :: es) t) (hn : x ≠ "__name__" := by decide) (hdb : (x == ("__debug__" : Str)) = false := by decide)
    (he : starEach (e :: es) X.env = (false, eval e X.env) :: starEach es X.env := by rfl) (hpl : (backTo pos (starEach es X.env)).any (·.1) = false := by rfl) : PE X (.Call (.Name x p) (e :: es) [] pos) (tCB r t) := by
  intro pins s σ H Q I h
  refine wpAny_Call_Name_kw (ld_blt I hg hm hv ?_ hn hdb)
  exact PyProof.Rows.callWith_builtin1 (thn (ha pos pins s σ H _ I h) fun us s1 ⟨vs, H1, I1, r1, q1⟩ => hc pins s1 σ H1 vs us Q I1 r1 q1) he hpl
/-- T(e, ..), T a built-in type -/
theorem pe_callTy (hc : CallR X (.type T) r) (hg : Gl X x) (hm : X.mg x = none) (hv : bootBuiltins x = some (.type T)) (ha : PA X (e :: es) t) (hn : x ≠ "__name__" := by decide) (hdb : (x == ("__debug__" : Str)) = false := by decide)
    (he : starEach (e :: es) X.env = (false, eval e X.env) :: starEach es X.env := by rfl) (hpl : (backTo pos (starEach es X.env)).any (·.1) = false := by rfl) : PE X (.Call (.Name x p) (e :: es) [] pos) (tCB r t) := by
  intro pins s σ H Q I h
  refine wpAny_Call_Name_kw (ld_blt I hg hm hv ?_ hn hdb)
  exact PyProof.Rows.callWith_type1 (thn (ha pos pins s σ H _ I h) fun us s1 ⟨vs, H1, I1, r1, q1⟩ => hc pins s1 σ H1 vs us Q I1 r1 q1) he hpl
end
end L2

namespace L2
open PySem PySem.Spec PyProof.Rows

/-! ### lists of pairs as tables -/
section
variable {κ : Type} [DecidableEq κ]
def valV (kvs : List (κ × V)) (k : κ) : Option V := (kvs.find? fun kv => decide (kv.1 = k)).map (·.2)
/-- in its place, or at the end -/
def putK (kvs : List (κ × V)) (k : κ) (v : V) : List (κ × V) :=
  if (kvs.any fun kv => decide (kv.1 = k)) = true then kvs.map (fun kv => if kv.1 = k then (kv.1, v) else kv) else kvs ++ [(k, v)]
theorem valV_nil {k : κ} : valV ([] : List (κ × V)) k = none := rfl
theorem valV_pos {p : κ × V} {r : List (κ × V)} {k : κ} (e : p.1 = k) : valV (p :: r) k = some p.2 := by simp [valV, List.find?_cons, e]
theorem valV_neg {p : κ × V} {r : List (κ × V)} {k : κ} (e : ¬ p.1 = k) : valV (p :: r) k = valV r k := by simp [valV, List.find?_cons, e]
theorem valV_any (k : κ) : ∀ kvs : List (κ × V), (kvs.any fun kv => decide (kv.1 = k)) = (valV kvs k).isSome
  | [] => rfl
  | p :: r => by
    rw [List.any_cons]
    by_cases e : p.1 = k
    · simp only [valV_pos e, decide_eq_true e, Bool.true_or, Option.isSome_some]
    · rw [valV_neg e, decide_eq_false e, Bool.false_or]; exact valV_any k r
theorem length_putK (kvs : List (κ × V)) (k : κ) (v : V) : (putK kvs k v).length ≤ kvs.length + 1 := by
  unfold putK
  split
  · rw [List.length_map]; omega
  · rw [List.length_append, List.length_cons, List.length_nil]; omega
theorem putK_new {kvs : List (κ × V)} {k : κ} (v : V) (h : valV kvs k = none) : putK kvs k v = kvs ++ [(k, v)] := by
  unfold putK
  rw [valV_any, h]
  exact if_neg (by decide)

theorem RelO.isSome_eq {o : Option V} {u : Option Value} (r : RelO o u) : o.isSome = u.isSome := by
  cases o with
  | none => cases u with
    | none => rfl
    | some _ => exact (show False from r).elim
  | some _ => cases u with
    | none => exact (show False from r).elim
    | some _ => rfl
theorem RelO.getD {o : Option V} {u : Option Value} {d : V} {d' : Value} (r : RelO o u) (rd : RelV d d') : RelV (o.getD d) (u.getD d') := by
  cases o with
  | none => cases u with
    | none => exact rd
    | some _ => exact (show False from r).elim
  | some _ => cases u with
    | none => exact (show False from r).elim
    | some _ => exact r

/-- raw tables of the same keys -/
theorem KV.val {kvs : List (κ × V)} {vs : List (κ × Value)} (r : KV kvs vs) (k : κ) : RelO (valV kvs k) (valueAt vs k) := by
  unfold KV at r
  induction r with
  | nil => exact True.intro
  | @cons p q ps qs h t ih =>
    obtain ⟨h1, h2⟩ := h
    by_cases e : p.1 = k
    · have e' : q.1 = k := h1.symm.trans e
      have b : valueAt (q :: qs) k = some q.2 := by simp [valueAt, List.find?_cons, e']
      rw [valV_pos e, b]; exact h2
    · have e' : ¬ q.1 = k := fun z => e (h1.trans z)
      have b : valueAt (q :: qs) k = valueAt qs k := by simp [valueAt, List.find?_cons, e']
      rw [valV_neg e, b]; exact ih
theorem KV.any {kvs : List (κ × V)} {vs : List (κ × Value)} (r : KV kvs vs) (k : κ) : (kvs.any fun kv => decide (kv.1 = k)) = vs.any fun kv => decide (kv.1 = k) := by
  unfold KV at r
  induction r with
  | nil => rfl
  | cons h t ih => rw [List.any_cons, List.any_cons, ih, h.1]
theorem KV.repl {kvs : List (κ × V)} {vs : List (κ × Value)} (r : KV kvs vs) (k : κ) {y : V} {u : Value} (ry : RelV y u) :
    KV (kvs.map fun kv => if kv.1 = k then (kv.1, y) else kv) (vs.map fun kv => if kv.1 = k then (kv.1, u) else kv) := by
  unfold KV at r ⊢
  induction r with
  | nil => exact .nil
  | @cons p q ps qs h t ih =>
    rw [List.map_cons, List.map_cons]
    refine .cons ?_ ih
    obtain ⟨h1, h2⟩ := h
    by_cases e : p.1 = k
    · rw [if_pos e, if_pos (h1.symm.trans e)]; exact ⟨h1, ry⟩
    · rw [if_neg e, if_neg (fun z => e (h1.trans z))]; exact ⟨h1, h2⟩
theorem KV.put {kvs : List (κ × V)} {vs : List (κ × Value)} (r : KV kvs vs) (k : κ) {y : V} {u : Value} (ry : RelV y u) : KV (putK kvs k y) (stored vs k u) := by
  unfold putK stored
  rw [r.any k]
  by_cases e : (vs.any fun kv => decide (kv.1 = k)) = true
  · rw [if_pos e, if_pos e]; exact r.repl k ry
  · rw [if_neg e, if_neg e]; exact Paired.snoc r ⟨rfl, ry⟩
theorem KV.length {kvs : List (κ × V)} {vs : List (κ × Value)} (r : KV kvs vs) : kvs.length = vs.length := Paired.length r
end


/-! ### a tracked dict, its keys ints and texts or tuples of these -/
theorem kV_is {P : Program} {w : World} {k : Key} {u : Value} (r : RelV (kV k) u) : (mixKind P w).is k u = true := by
  cases k with
  | inl i => obtain ⟨t, e⟩ := (show ∃ t, u = Value.int i t from r); subst e; exact mixKind_int P w i t
  | inr x => obtain ⟨t, e⟩ := (show ∃ t, u = Value.str x t from r); subst e; exact mixKind_str P w x t
theorem items_are {P : Program} {w : World} : ∀ {ks : List Key} {us : List Value}, Vals (ks.map kV) us → ItemsAre (mixKind P w) ks us
  | [], _, r => by rw [List.map_nil] at r; cases r; exact .nil
  | k :: ks, _, r => by
    rw [List.map_cons] at r
    cases r with
    | cons h t => exact .cons (kV_is h) (items_are t)

/-- raw entries of a dict with tuple keys -/
abbrev KT (H : Hp) : List (List Key × V) → List (List Key × Addr × Value) → Prop := Paired fun p q => p.1 = q.1 ∧ H q.2.1 = some (.tup (p.1.map kV)) ∧ RelV p.2 q.2.2
theorem KT.val {H : Hp} {kvs : List (List Key × V)} {xs : List (List Key × Addr × Value)} (r : KT H kvs xs) (k : List Key) : RelO (valV kvs k) ((atKey xs k).map (·.2)) := by
  induction r with
  | nil => exact True.intro
  | @cons p q ps qs h t ih =>
    obtain ⟨h1, _, h2⟩ := h
    by_cases e : p.1 = k
    · have e' : q.1 = k := h1.symm.trans e
      have b : atKey (q :: qs) k = some q.2 := by simp [atKey, List.find?_cons, e']
      rw [valV_pos e, b]; exact h2
    · have e' : ¬ q.1 = k := fun z => e (h1.trans z)
      have b : atKey (q :: qs) k = atKey qs k := by simp [atKey, List.find?_cons, e']
      rw [valV_neg e, b]; exact ih
theorem KT.repl {H : Hp} {kvs : List (List Key × V)} {xs : List (List Key × Addr × Value)} (r : KT H kvs xs) (k : List Key) {y : V} {u : Value} (ry : RelV y u) :
    KT H (kvs.map fun kv => if kv.1 = k then (kv.1, y) else kv) (xs.map (putAt k u)) := by
  induction r with
  | nil => exact .nil
  | @cons p q ps qs h t ih =>
    rw [List.map_cons, List.map_cons]
    refine .cons ?_ ih
    obtain ⟨h1, h2, h3⟩ := h
    unfold putAt
    by_cases e : p.1 = k
    · rw [if_pos e, if_pos (h1.symm.trans e)]; exact ⟨h1, h2, ry⟩
    · rw [if_neg e, if_neg (fun z => e (h1.trans z))]; exact ⟨h1, h2, h3⟩
theorem KT.put {H : Hp} {kvs : List (List Key × V)} {xs : List (List Key × Addr × Value)} (r : KT H kvs xs) (k : List Key) {b : Addr} {y : V} {u : Value} (hb : H b = some (.tup (k.map kV))) (ry : RelV y u) :
    KT H (putK kvs k y) (storedH xs k b u) := by
  have e : (kvs.any fun kv => decide (kv.1 = k)) = (atKey xs k).isSome := by
    rw [valV_any, (r.val k).isSome_eq, Option.isSome_map]
  unfold putK storedH
  rw [e]
  by_cases q : (atKey xs k).isSome = true
  · rw [if_pos q, if_pos q]; exact r.repl k ry
  · rw [if_neg q, if_neg q]; exact Paired.snoc r ⟨rfl, hb, ry⟩
theorem KT.keeps {H H' : Hp} {kvs : List (List Key × V)} {xs : List (List Key × Addr × Value)} (r : KT H kvs xs) (ht : ∀ b ys, H b = some (.tup ys) → H' b = some (.tup ys)) : KT H' kvs xs :=
  Paired.mapP r fun _ _ z => ⟨z.1, ht _ _ z.2.1, z.2.2⟩

section
variable {P : Program} {w : World} {H : Hp} {h : Heap} {a : Addr}
theorem rd_of {u : HO} (ok : HOk P w H h) (e : Rd H a u) : ObjOk P w H h a u := e.ok ok
theorem dk_rd {kvs : List (Key × V)} (ok : HOk P w H h) (e : Rd H a (.dK kvs)) : kvs.length ≤ sizeLine ∧ (a == sysModules) = false ∧ ∃ vs, KV kvs vs ∧ h.DictOf (mixKind P w) a vs :=
  show ObjOk P w H h a (.dK kvs) from rd_of ok e
theorem dk_of {kvs : List (Key × V)} (ok : HOk P w H h) (e : H a = some (.dK kvs)) : kvs.length ≤ sizeLine ∧ (a == sysModules) = false ∧ ∃ vs, KV kvs vs ∧ h.DictOf (mixKind P w) a vs := dk_rd ok (.inl e)
/-- a tracked tuple of ints and texts is a key -/
theorem key_of {ks : List Key} (ok : HOk P w H h) (e : H a = some (.tup (ks.map kV))) : (tupleKind (mixKind P w)).is h ks a := by
  obtain ⟨_, its, r, o, h1, h2, n, h3⟩ := (show ObjOk P w H h a (.tup (ks.map kV)) from ok a _ e)
  exact ⟨o, its.toArray, n, h1, h2, h3, by simpa using items_are r⟩
theorem dt_rd {kvs : List (List Key × V)} (ok : HOk P w H h) (e : Rd H a (.dT kvs)) : kvs.length ≤ sizeLine ∧ (a == sysModules) = false ∧
    ∃ xs, KT H kvs xs ∧ h.DictOfH (tupleKind (mixKind P w)) a xs := by
  obtain ⟨z, y, xs, r, o, es, ep, h1, h2, h3, h4, h5⟩ := (show ObjOk P w H h a (.dT kvs) from rd_of ok e)
  refine ⟨z, y, xs, r, o, es, ep, h1, h2, h3, h4, fun x hx => ?_, h5⟩
  have all : ∀ {l : List (List Key × V)} {m : List (List Key × Addr × Value)}, KT H l m → ∀ x ∈ m, (tupleKind (mixKind P w)).is h x.1 x.2.1 := by
    intro l m q
    induction q with
    | nil => intro x hx; exact nomatch hx
    | @cons p q ps qs hq t ih =>
      intro x hx
      rcases List.mem_cons.mp hx with e | hx
      · subst e
        exact key_of ok (by rw [← hq.1]; exact hq.2.1)
      · exact ih x hx
  exact all r x hx
theorem dt_of {kvs : List (List Key × V)} (ok : HOk P w H h) (e : H a = some (.dT kvs)) : kvs.length ≤ sizeLine ∧ (a == sysModules) = false ∧
    ∃ xs, KT H kvs xs ∧ h.DictOfH (tupleKind (mixKind P w)) a xs := dt_rd ok (.inl e)
end

/-- what the dict at a holds at the key y -/
def DGet (H : Hp) (a : Addr) (y : V) (r : Option V) : Prop :=
  (∃ kvs k, Rd H a (.dK kvs) ∧ y = kV k ∧ r = valV kvs k) ∨ ∃ kvs k b, Rd H a (.dT kvs) ∧ y = .ref b ∧ H b = some (.tup (k.map kV)) ∧ r = valV kvs k
/-- the heap behind a[y] = v -/
def DPut (H : Hp) (a : Addr) (y v : V) (H' : Hp) : Prop :=
  (∃ kvs k, H a = some (.dK kvs) ∧ y = kV k ∧ kvs.length < sizeLine ∧ H' = upd H a (.dK (putK kvs k v))) ∨
  ∃ kvs k b, H a = some (.dT kvs) ∧ y = .ref b ∧ H b = some (.tup (k.map kV)) ∧ kvs.length < sizeLine ∧ H' = upd H a (.dT (putK kvs k v))
theorem DGet.t {H : Hp} {a b : Addr} {kvs : List (List Key × V)} {k : List Key} (e : H a = some (.dT kvs)) (eb : H b = some (.tup (k.map kV))) : DGet H a (.ref b) (valV kvs k) := .inr ⟨kvs, k, b, .inl e, rfl, eb, rfl⟩
theorem DPut.t {H : Hp} {a b : Addr} {kvs : List (List Key × V)} {k : List Key} {v : V} (e : H a = some (.dT kvs)) (eb : H b = some (.tup (k.map kV))) (hl : kvs.length < sizeLine) :
    DPut H a (.ref b) v (upd H a (.dT (putK kvs k v))) := .inr ⟨kvs, k, b, e, rfl, eb, hl, rfl⟩


section
variable {X : Cx} {pins : List (Addr × Obj)} {σ : St} {H : Hp} {s : Shared} {a : Addr} {y v : V} {u r : Value} {o : Option V} {A : Around} {E : Value → Shared → Prop}

theorem Inv.big (I : Inv X pins σ H s) : sysModules < s.heap.objs.size := by
  have h : mainGlobals < s.heap.objs.size := (I.mod.glob.keeps I.bk).lt
  exact Nat.lt_trans (by decide) h

/-- y in d -/
theorem d_in {Q : Value → Shared → Prop} (hu : A.units + 1 < cLine) (I : Inv X pins σ H s) (g : DGet H a y o) (ry : RelV y u) (h : ∀ s', Inv X pins σ H s' → Q (.bool o.isSome) s') :
    wpAny (model X.prog X.w) A (compareOp .In u (.ref a)) Q E s := by
  rcases g with ⟨kvs, k, e, ey, l⟩ | ⟨kvs, k, b, e, ey, eb, l⟩
  · subst ey
    obtain ⟨z, hd, vs, rel, dd⟩ := dk_rd I.hok e
    refine wpAny_in_of (kV_is ry) hd dd.mapOf ?_
    rw [← (rel.val k).isSome_eq, ← l]
    exact h _ (I.tok _)
  · subst ey
    cases (show u = Value.ref b from ry)
    obtain ⟨z, hd, xs, rel, dd⟩ := dt_rd I.hok e
    refine wpAny_in_heap (tupleKind_room_in1 hu) (key_of I.hok eb) hd dd ?_
    have q := (rel.val k).isSome_eq
    rw [Option.isSome_map] at q
    rw [← q, ← l]
    exact h _ (I.tok _)
/-- a dict's object is replaced -/
theorem d_write {h' : Heap} {t' : Nat} {ob : HO} (I : Inv X pins σ H s) (mu : Mut (H a)) (hs : Heap.SameBut a s.heap h') (he : ∃ q, h'.get? a = some q) (new : ObjOk X.prog X.w (upd H a ob) h' a ob) :
    Inv X pins σ (upd H a ob) { s with heap := h', toks := t' } :=
  I.write (x := a) (e := a) mu (.inl rfl) (fun b q hb z => (hs.2 b hb).trans z) he new
theorem dk_new {P : Program} {w : World} {H' : Hp} {h' : Heap} {kvs : List (Key × V)} {vs : List (Key × Value)} (z : kvs.length ≤ sizeLine) (hd : (a == sysModules) = false) (rel : KV kvs vs) (dd : h'.DictOf (mixKind P w) a vs) :
    ObjOk P w H' h' a (.dK kvs) := ⟨z, hd, vs, rel, dd⟩
/-- d[y] = v -/
theorem d_setItem {H' : Hp} {Q : Unit → Shared → Prop} (hu : A.units + 1 < cLine) (I : Inv X pins σ H s) (g : DPut H a y v H') (ry : RelV y u) (rv : RelV v r) (h : ∀ s', Inv X pins σ H' s' → Q () s') :
    wpAny (model X.prog X.w) A (setItem (.ref a) u r) Q E s := by
  rcases g with ⟨kvs, k, e, ey, l, eH⟩ | ⟨kvs, k, b, e, ey, eb, l, eH⟩
  · subst ey eH
    obtain ⟨z, hd, vs, rel, dd⟩ := dk_of I.hok e
    have hz : vs.length ≤ sizeLine := by rw [← rel.length]; exact z
    have hl : (putK kvs k v).length ≤ sizeLine := by have := length_putK kvs k v; omega
    refine wpAny_setItem_pairs (hsz := hz) (kV_is ry) dd fun h' dd' hs => h _ ?_
    have he : ∃ q, h'.get? a = some q := let ⟨q, _, _, hq, _⟩ := dd'; ⟨q, hq⟩
    exact d_write I (by rw [e]; exact True.intro) hs he (dk_new hl hd (rel.put k rv) dd')
  · subst ey eH
    cases (show u = Value.ref b from ry)
    obtain ⟨z, hd, xs, rel, dd⟩ := dt_of I.hok e
    have hz : xs.length ≤ sizeLine := by rw [← Paired.length rel]; exact z
    have hl : (putK kvs k v).length ≤ sizeLine := by have := length_putK kvs k v; omega
    refine wpAny_setItem_heap (hsz := hz) (tupleKind_room_in1 hu) (key_of I.hok eb) dd fun h' dd' hs => h _ ?_
    obtain ⟨q, es, ep, hq, h2, h3, h4, _, h5⟩ := dd'
    refine d_write I (by rw [e]; exact True.intro) hs ⟨q, hq⟩ ⟨hl, hd, _, (rel.put k eb rv).keeps fun c ys ec => ?_, q, es, ep, hq, h2, h3, h4, h5⟩
    rw [upd_ne (ne_of ec e (fun z => nomatch z))]
    exact ec
end

section
variable {X : Cx} {pins : List (Addr × Obj)} {σ : St} {H : Hp} {s : Shared} {a : Addr} {kvs : List (Key × V)} {k : Key} {u : Value} {A : Around} {E : Value → Shared → Prop}
end


/-! ### readings and rules -/
/-- y in d, y not in d -/
def tDIn (ty td : TE) : TE := fun σ H Q => ty σ H fun y H1 => td σ H1 fun x H2 => ∃ a o, x = .ref a ∧ DGet H2 a y o ∧ Q (.bl o.isSome) H2
/-- d[y] = v -/
def sDPut (td ty tv : TE) : TS := fun D σ H => tv σ H fun v H1 => td σ H1 fun x H2 => ty σ H2 fun y H3 => ∃ a H4, x = .ref a ∧ DPut H3 a y v H4 ∧ D.nx σ H4
section
variable {X : Cx} {o i e value : Expr} {pos pos' tpos : Pos} {td ty tv : TE}
theorem pc_din (hu : X.A.units + 1 < cLine) (hi : PE X i ty) (ho : PE X o td) : PC X .In i o (tDIn ty td) := by
  intro pins s σ H Q I h
  refine thn (hi pins s σ H _ I h) fun iv s1 ⟨y, H1, I1, ry, q1⟩ => thn (ho pins s1 σ H1 _ I1 q1) fun u s2 ⟨x, H2, I2, rx, a, ov, ex, g, q2⟩ => ?_
  subst ex
  obtain rfl : u = Value.ref a := rx
  exact d_in hu I2 g ry fun s3 I3 => ⟨.bl ov.isSome, H2, I3, rfl, q2⟩
theorem ps_dput (hu : X.A.units + 1 < cLine) (ho : PE X o td) (hi : PE X i ty) (hv : PE X value tv) (hs : swapsWith value (some (.Subscript o i pos')) pos.line X.env = pure false) :
    PS X (.Assign [.Subscript o i pos'] value pos) (sDPut td ty tv) := by
  intro pins s σ H D I h
  refine wpAny_Assign_Subscript (thn (hv pins s σ H _ I h) fun r s1 ⟨v, H1, I1, rv, q1⟩ => thn (ho pins s1 σ H1 _ I1 q1) fun u s2 ⟨x, H2, I2, rx, q2⟩ => thn (hi pins s2 σ H2 _ I2 q2) fun iv s3 ⟨y, H3, I3, ry, a, H4, ex, g, q3⟩ => ?_) hs
  subst ex
  obtain rfl : u = Value.ref a := rx
  exact d_setItem hu I3 g ry rv fun s4 I4 => ⟨σ, H4, I4, q3⟩
end


/-! ### displays -/
theorem dt_empty {P : Program} {w : World} {H : Hp} (h : Heap) (hb : sysModules < h.objs.size) : ObjOk P w H (h.push { cls := .type "dict", data := .dict #[] }) h.objs.size (.dT []) :=
  ⟨Nat.zero_le _, beq_eq_false_iff_ne.mpr (Ne.symm (Nat.ne_of_lt hb)), [], .nil, _, #[], 0, Heap.get?_push_size _ rfl, ⟨rfl, rfl, rfl⟩, rfl, rfl, List.nodup_nil⟩
def tDNewT : TE := fun _ H Q => ∀ p, H p = none → Q (.ref p) (upd H p (.dT []))
section
variable {X : Cx} {pos : Pos}
theorem pe_dnewT : PE X (.Dict [] [] pos) tDNewT := fun pins s σ H Q I h =>
  wpAny_Dict_empty ⟨.ref s.heap.objs.size, _, I.laid (a := s.heap.objs.size) (o := .dT []) (t' := s.toks) (fun _ _ q => Heap.get?_push_of_some _ q) (Nat.le_refl _) (dt_empty s.heap I.big), rfl, h _ (I.hok.fresh (Nat.le_refl _))⟩
end

/-! ### methods -/
/-- a method call o.m(e) of a built-in, with one argument: what must be seen of the text -/
structure M1 (X : Cx) (o : Expr) (m : Str) (apos : Pos) (e : Expr) (cpos : Pos) : Prop where
  base : attributeBase o m X.env (eval o X.env) = eval o X.env
  few : ((backTo cpos (starEach [e] X.env)).all (fun x => !x.1) && (backToKw cpos (keywordEach [] X.env)).all (fun x => x.1.isSome)
    && decide (([e] : List Expr).length + ([] : List Keyword).length + (if ([] : List Keyword).isEmpty then 0 else 1) < 30)) = true
  line : (apos.endLine == cpos.line) = true
  trees : backTo cpos (starEach [e] X.env) = [(false, eval e X.env)]
/-- a is a dict, whatever its keys -/
def IsD (H : Hp) (a : Addr) : Prop := (∃ kvs, Rd H a (.dK kvs)) ∨ ∃ kvs, Rd H a (.dT kvs)
theorem isD_at {X : Cx} {pins : List (Addr × Obj)} {σ : St} {H : Hp} {s : Shared} {a : Addr} (I : Inv X pins σ H s) (d : IsD H a) :
    s.TypeIs (.ref a) "dict" ∧ (∀ b, Value.ref a = .ref b → ∃ ob, s.heap.get? b = some ob ∧ ob.dict = none) ∧ (a == sysModules) = false := by
  rcases d with ⟨kvs, e⟩ | ⟨kvs, e⟩
  · obtain ⟨_, hd, vs, _, dd⟩ := dk_rd I.hok e
    refine ⟨dd.typeIs, fun b q => ?_, hd⟩
    cases q
    obtain ⟨ob, _, _, h1, h2, _⟩ := dd
    exact ⟨ob, h1, h2.2.1⟩
  · obtain ⟨_, hd, xs, _, dd⟩ := dt_rd I.hok e
    refine ⟨dd.typeIs, fun b q => ?_, hd⟩
    cases q
    obtain ⟨ob, _, _, h1, h2, _⟩ := dd
    exact ⟨ob, h1, h2.2.1⟩

section
variable {X : Cx} {pins : List (Addr × Obj)} {σ : St} {H : Hp} {s : Shared} {a : Addr} {y d : V} {u r : Value} {o : Option V} {A : Around} {E : Value → Shared → Prop}
/-- d.get(y) -/
theorem d_get1 {Q : Value → Shared → Prop} (hu : A.units + 1 < cLine) (I : Inv X pins σ H s) (g : DGet H a y o) (ry : RelV y u) (h : ∀ w' s', Inv X pins σ H s' → RelV (o.getD .non) w' → Q w' s') :
    wpAny (model X.prog X.w) A (call (.builtin "dict.get") [.ref a, u]) Q E s := by
  rcases g with ⟨kvs, k, e, ey, l⟩ | ⟨kvs, k, b, e, ey, eb, l⟩
  · subst ey
    obtain ⟨z, hd, vs, rel, dd⟩ := dk_rd I.hok e
    refine call_meetsIn PySem.F.slot_dict_get dd.typeIs PySem.F.entry_dict_get (PySem.F.args_dict_get_2 _ _) (meets_dict_get (mixKind X.prog X.w) a (kV_is ry) hd) ⟨_, dd.mapOf, h _ _ (I.tok _) ?_⟩
    rw [l]
    exact (rel.val k).getD rfl
  · subst ey
    cases (show u = Value.ref b from ry)
    obtain ⟨z, hd, xs, rel, dd⟩ := dt_rd I.hok e
    refine call_meetsIn PySem.F.slot_dict_get dd.typeIs PySem.F.entry_dict_get (PySem.F.args_dict_get_2 _ _) (meetsH_dict_get (tupleKind (mixKind X.prog X.w)) a b hd) ⟨tupleKind_room_in1 hu, k, xs, key_of I.hok eb, dd, h _ _ (I.tok _) ?_⟩
    rw [l]
    exact (rel.val k).getD rfl
end

def tDGet1 (td ty : TE) : TE := fun σ H Q => td σ H fun x H1 => ∃ a, x = .ref a ∧ IsD H1 a ∧ ty σ H1 fun y H2 => ∃ o, DGet H2 a y o ∧ Q (o.getD .non) H2
section
variable {X : Cx} {o e f : Expr} {apos cpos : Pos} {td ty tx : TE}
theorem pe_dget1 (hu : X.A.units + 1 < cLine) (ho : PE X o td) (he : PE X e ty) (m : M1 X o "get" apos e cpos) : PE X (.Call (.Attribute o "get" apos) [e] [] cpos) (tDGet1 td ty) := by
  intro pins s σ H Q I h
  refine wpAny_Call_method m.base m.few m.line PySem.F.plainAttrs_dict PySem.F.slot_dict_get PySem.F.type_dict_get (thn (ho pins s σ H _ I h) fun u s1 ⟨x, H1, I1, rx, a, ex, d, q1⟩ => ?_)
  subst ex
  obtain rfl : u = Value.ref a := rx
  obtain ⟨t1, t2, _⟩ := isD_at I1 d
  refine ⟨t1, t2, ?_⟩
  rw [m.trees]
  refine Calls.callWith_builtin rfl (Calls.evalArgs_plain (Calls.spliced_cons (thn (he pins s1 σ H1 _ I1 q1) fun iv s2 ⟨y, H2, I2, ry, ov, g, q2⟩ => Calls.spliced_nil ?_)))
  exact d_get1 hu I2 g ry fun w' s3 I3 rw' => ⟨_, H2, I3, rw', q2⟩
end

/-! ### dict(d): a copy -/
section
variable {X : Cx} {pins : List (Addr × Obj)} {σ : St} {H : Hp} {s : Shared} {a : Addr} {kvs : List (Key × V)} {A : Around} {E : Value → Shared → Prop}
end


section
variable {X : Cx} {pins : List (Addr × Obj)} {σ : St} {H : Hp} {s : Shared} {a : Addr} {y : V} {u : Value} {A : Around} {E : Value → Shared → Prop}
end
end L2

namespace HT
open PySem PyProof.Rows

section
open PySem.SeqAt
open PySem.AutoSeq1 (wpAny_loadPart')
open PySem.MeetsSeq PySem.MeetsSeq2 PySem.MeetsSeq3

end

section
variable {prog : Program} {w : World} {A : Around} {E : Value → Shared → Prop} {s : Shared}

/-! ### t[a:b], not the whole -/
/-- a slice's bound as a place among n (d where it is left out) -/
def sIx (n d : Nat) : Option Int → Nat
  | none => d
  | some v => if v < 0 then (v + (n : Int)).toNat else min v.toNat n
theorem sIx_none (n d : Nat) : sIx n d none = d := rfl
theorem sIx_le (n d : Nat) (hd : d ≤ n) (o : Option Int) : sIx n d o ≤ n := by
  cases o with
  | none => exact hd
  | some v =>
    show (if v < 0 then (v + (n : Int)).toNat else min v.toNat n) ≤ n
    by_cases hv : v < 0
    · rw [if_pos hv]; omega
    · rw [if_neg hv]; exact Nat.min_le_right _ _
end
end HT

namespace L2
open PySem PySem.Spec PyProof.Rows

/-! ### the parts of a slice -/
abbrev TO := St → Hp → (Option Int → Hp → Prop) → Prop
/-- a slice's part (left out, or an int) -/
def PO (X : Cx) (e : Option Expr) (t : TO) : Prop :=
  ∀ (pins : List (Addr × Obj)) (s : Shared) (σ : St) (H : Hp) (Q : Option Int → Hp → Prop), Inv X pins σ H s → t σ H Q →
    wpAny (model X.prog X.w) X.A (evalPart e X.env) (fun u s' => ∃ o H', Inv X pins σ H' s' ∧ IsPart u o ∧ Q o H') X.xe s
def tNoPart : TO := fun _ H Q => Q none H
def tPart (t : TE) : TO := fun σ H Q => t σ H fun x H1 => ∃ i, x = .int i ∧ Q (some i) H1

section
variable {X : Cx} {e : Expr} {te : TE} {lo hi : Option Expr} {tl th : TO} {pos p2 : Pos}

theorem po_none : PO X none tNoPart := by
  intro pins s σ H Q I h
  rw [evalPart_none]
  exact wpAny_pure ⟨none, H, I, .none, h⟩
theorem po_some (h : PE X e te) : PO X (some e) (tPart te) := by
  intro pins s σ H Q I hw
  rw [evalPart_some]
  refine thn (h pins s σ H _ I hw) fun u s1 ⟨x, H1, I1, r1, q1⟩ => ?_
  obtain ⟨i, rfl, q⟩ := q1
  obtain ⟨t, rfl⟩ := r1
  exact ⟨some i, H1, I1, .int i t, q⟩

/-- what a slice of a value is, by values: the slice object stands at sl -/
def SlR (X : Cx) (r : V → Option Int → Option Int → Hp → VK → Prop) : Prop :=
  ∀ (pins : List (Addr × Obj)) (s : Shared) (σ : St) (H : Hp) (x : V) (v vl vu : Value) (lo hi : Option Int) (sl : Addr) (Q : VK), Inv X pins σ H s → RelV x v → s.heap.IsSliceOf sl vl vu .none → IsPart vl lo → IsPart vu hi → r x lo hi H Q →
    ∃ T id, typeLookup (.type T) "__getitem__" = pure (some (.builtin id)) ∧ s.TypeIs v T ∧ wpAny (model X.prog X.w) X.A (getItem v (.ref sl)) (EP X pins σ Q) X.xe s
def tSl (r : V → Option Int → Option Int → Hp → VK → Prop) (te : TE) (tl th : TO) : TE := fun σ H Q => te σ H fun x H1 => tl σ H1 fun l H2 => th σ H2 fun u H3 => r x l u H3 Q
/-- a[lo:hi], any a -/
theorem pe_slice {r : V → Option Int → Option Int → Hp → VK → Prop} (hr : SlR X r) (he : PE X e te) (hl : PO X lo tl) (hu : PO X hi th) : PE X (.Subscript e (.Slice lo hi none p2) pos) (tSl r te tl th) := by
  intro pins s σ H Q I h
  refine Subscript_ (thn (he pins s σ H _ I h) fun v s1 ⟨x, H1, I1, r1, q1⟩ => ?_)
  refine wpAny_Slice (thn (hl pins s1 σ H1 _ I1 q1) fun vl s2 ⟨l, H2, I2, pl, q2⟩ => thn (hu pins s2 σ H2 _ I2 q2) fun vu s3 ⟨u, H3, I3, pu, q3⟩ => ?_)
  rw [evalPart_none]
  refine wpAny_pure ?_
  have I4 : Inv X pins σ H3 { s3 with heap := s3.heap.push { cls := .type "slice", data := .fields #[vl, vu, .none] } } := I3.kept (t' := s3.toks) fun b ob q => Heap.get?_push_of_some _ q
  obtain ⟨T, id, hT, ht, hg⟩ := hr pins { s3 with heap := s3.heap.push { cls := .type "slice", data := .fields #[vl, vu, .none] } } σ H3 x v vl vu l u s3.heap.objs.size Q I4 r1 (Heap.IsSliceOf.new ..) pl pu q3
  show wpAny (model X.prog X.w) X.A (subscriptTail e (.Slice lo hi none p2) v (.ref s3.heap.objs.size)) (EP X pins σ Q) X.xe { s3 with heap := s3.heap.push { cls := .type "slice", data := .fields #[vl, vu, .none] } }
  exact tail_any (ops := [.ref s3.heap.objs.size, v]) ht hT hg (by with_unfolding_all rfl)

/-- the items of xs[lo:hi] -/
def cutV (xs : List V) (lo hi : Option Int) : List V := (xs.drop (HT.sIx xs.length 0 lo)).take (HT.sIx xs.length xs.length hi - HT.sIx xs.length 0 lo)
theorem cutV_length (xs : List V) (lo hi : Option Int) : (cutV xs lo hi).length ≤ xs.length := by
  unfold cutV
  rw [List.length_take, List.length_drop]
  omega
/-! ### t < u, t + u -/
end
end L2

namespace L2
open PySem PySem.Spec PyProof.Rows

/-! ### places -/
/-- the place that an index of any sign means -/
def ixN (n : Nat) (i : Int) : Option Nat := if 0 ≤ i then (if i < n then some i.toNat else none) else if -(n : Int) ≤ i then some (i + n).toNat else none
def atI {α : Type} (xs : List α) (i : Int) : Option α := (ixN xs.length i).bind fun j => xs[j]?
theorem ixN_seq {n : Nat} {i : Int} {j : Nat} (h : ixN n i = some j) : seqIndex? i n = some j ∧ j < n ∧ -(n : Int) ≤ i ∧ i < n := by
  unfold ixN at h
  by_cases h0 : 0 ≤ i
  · rw [if_pos h0] at h
    by_cases h1 : i < n
    · rw [if_pos h1] at h
      have e : i.toNat = j := Option.some.inj h
      exact ⟨by rw [seqIndex_of h0 h1, e], by omega, by omega, h1⟩
    · rw [if_neg h1] at h; cases h
  · rw [if_neg h0] at h
    by_cases h1 : -(n : Int) ≤ i
    · rw [if_pos h1] at h
      have e : (i + n).toNat = j := Option.some.inj h
      exact ⟨by rw [seqIndex_neg (by omega) h1, e], by omega, h1, by omega⟩
    · rw [if_neg h1] at h; cases h
theorem atI_get {α : Type} {xs : List α} {i : Int} {v : α} (h : atI xs i = some v) : ∃ j, seqIndex? i xs.length = some j ∧ xs[j]? = some v ∧ j < xs.length ∧ -(xs.length : Int) ≤ i ∧ i < xs.length := by
  unfold atI at h
  cases e : ixN xs.length i with
  | none => rw [e] at h; cases h
  | some j =>
    rw [e] at h
    obtain ⟨h1, h2, h3, h4⟩ := ixN_seq e
    exact ⟨j, h1, h, h2, h3, h4⟩
theorem atI_nat {α : Type} {xs : List α} {j : Nat} {v : α} (h : xs[j]? = some v) : atI xs (j : Int) = some v := by
  have hj : j < xs.length := (List.getElem?_eq_some_iff.mp h).1
  have e : ixN xs.length (j : Int) = some j := by
    unfold ixN
    rw [if_pos (by omega), if_pos (by omega)]; simp
  unfold atI; rw [e]; exact h
theorem atI_last {α : Type} (xs : List α) (v : α) : atI (xs ++ [v]) (-1) = some v := by
  have hl : (xs ++ [v]).length = xs.length + 1 := by simp
  have e : ixN (xs ++ [v]).length (-1) = some xs.length := by
    unfold ixN
    rw [hl, if_neg (by decide), if_pos (by omega)]
    congr 1
    omega
  unfold atI
  rw [e]
  show (xs ++ [v])[xs.length]? = some v
  simp

/-! ### what may be subscripted -/
/-- what stands as an index of a plain subscript -/
def PlainIx (b : Expr) : Prop := ∀ o i, subscripted b false o i = operate [o, i] (getItem o i)
/-- a subscript by values -/
def IxR (X : Cx) (r : R2) : Prop :=
  ∀ (value slice : Expr) (pins : List (Addr × Obj)) (s : Shared) (σ : St) (H : Hp) (x y : V) (v u : Value) (Q : VK), Inv X pins σ H s → RelV x v → RelV y u → r x y H Q →
    subscripted slice false v u = operate [v, u] (getItem v u) → wpAny (model X.prog X.w) X.A (subscriptTail value slice v u) (EP X pins σ Q) X.xe s
/-- a call of a builtin's method by values: the receiver, the arguments -/
def MtR (X : Cx) (id : String) (r : V → List V → Hp → VK → Prop) : Prop :=
  ∀ (pins : List (Addr × Obj)) (s : Shared) (σ : St) (H : Hp) (x : V) (xs : List V) (v : Value) (us : List Value) (Q : VK), Inv X pins σ H s → RelV x v → Vals xs us → r x xs H Q →
    wpAny (model X.prog X.w) X.A (call (.builtin id) (v :: us)) (EP X pins σ Q) X.xe s
section
variable {X : Cx} {a b : Expr} {ta tb : TE} {pos : Pos}
/-- a[b] -/
theorem pe_ix {r : R2} (hr : IxR X r) (ha : PE X a ta) (hb : PE X b tb) (hs : PlainIx b) : PE X (.Subscript a b pos) (tOp r ta tb) := by
  intro pins s σ H Q I h
  exact Subscript_ (binT ha hb I h fun v u s2 x y H2 I2 rx ry q => hr a b pins s2 σ H2 x y v u Q I2 rx ry q (hs _ _))

inductive rIxL (K : PySem.W.Frag) (x : V) (y : V) (H : Hp) (Q : VK) : Prop
  | mk (p : _) (xs : _) (i : _) (v : _) (_ : x = .ref p) (_ : y = .int i) (_ : SqL K H p xs) (_ : atI xs i = some v) (_ : Q v H) : rIxL K x y H Q
inductive rIxT (K : PySem.W.Frag) (x : V) (y : V) (H : Hp) (Q : VK) : Prop
  | mk (p : _) (xs : _) (i : _) (v : _) (_ : x = .ref p) (_ : y = .int i) (_ : SqT K H p xs) (_ : atI xs i = some v) (_ : Q v H) : rIxT K x y H Q
inductive rIxS (x : V) (y : V) (H : Hp) (Q : VK) : Prop
  | mk (z : _) (i : _) (c : _) (_ : x = .str z) (_ : y = .int i) (_ : z.length ≤ sizeLine) (_ : atI z.cps.toList i = some c) (_ : Q (.str ⟨#[c]⟩) H) : rIxS  x y H Q
theorem ix_list : IxR X (rIxL X.K) := by
  intro value slice pins s σ H x y v u Q I rx ry h hs
  obtain ⟨p, xs, i, z, rfl, rfl, hq, he, q⟩ := h
  cases rx
  obtain ⟨t, rfl⟩ := ry
  obtain ⟨its, r, pl, hz⟩ := I.list hq
  obtain ⟨j, h1, h2, h3, h4, h5⟩ := atI_get he
  obtain ⟨w, ew, rw'⟩ := r.get h2
  have hl := r.length
  have hn := line63
  have fin : EP X pins σ Q w s := ⟨z, H, I, rw', q⟩
  by_cases h0 : 0 ≤ i
  · have hj : i.toNat = j := by
      rw [seqIndex_of h0 h5] at h1
      exact Option.some.inj h1
    exact item_listR pl.isList h0 (by omega) (by rw [hj]; simpa using ew) fin hs
  · have hj : (i + (its.toArray.size : Int)).toNat = j := by
      rw [seqIndex_neg (by omega) h4] at h1
      rw [List.size_toArray, ← hl]
      exact Option.some.inj h1
    exact subscriptTail_builtinR (x := w) pl.isList.typeIs slot_list_getitem.lookup
      (wpAny_getItem_list_neg (Q := fun r s' => r = w ∧ EP X pins σ Q r s') pl.isList (by omega) (by rw [List.size_toArray] <;> omega) (by omega) (by rw [hj]; simpa using ew) ⟨rfl, fin⟩) hs
theorem ix_tup : IxR X (rIxT X.K) := by
  intro value slice pins s σ H x y v u Q I rx ry h hs
  obtain ⟨p, xs, i, z, rfl, rfl, hq, he, q⟩ := h
  cases rx
  obtain ⟨t, rfl⟩ := ry
  obtain ⟨its, r, pl, hz⟩ := I.tuple hq
  obtain ⟨j, h1, h2, h3, h4, h5⟩ := atI_get he
  obtain ⟨w, ew, rw'⟩ := r.get h2
  have hl := r.length
  have hn := line63
  have fin : EP X pins σ Q w s := ⟨z, H, I, rw', q⟩
  exact subscriptTail_builtinR (x := w) pl.typeIs slot_tuple_getitem.lookup
    (getItem_tuple (j := j) (Q := fun r s' => r = w ∧ EP X pins σ Q r s') pl (by omega) (by omega) (by rw [List.size_toArray, ← hl]; exact h1) (by simpa using ew) ⟨rfl, fin⟩) hs
theorem ix_str : IxR X rIxS := by
  intro value slice pins s σ H x y v u Q I rx ry h hs
  obtain ⟨z, i, c, rfl, rfl, hz, he, q⟩ := h
  obtain ⟨t, rfl⟩ := rx
  obtain ⟨t', rfl⟩ := ry
  obtain ⟨j, h1, h2, h3, h4, h5⟩ := atI_get he
  have hl : z.cps.toList.length = z.length := by simp [Str.length]
  rw [hl] at h1 h4 h5
  have hn := line63
  exact tail_any (typeIs_str s z t) slot_str_getitem.lookup (getItem_str (c := c) (by
    have e1 : decide (i < -(2 ^ 63 : Int)) = false := decide_eq_false (by omega)
    have e2 : decide (i ≥ 2 ^ 63) = false := decide_eq_false (by omega)
    rw [e1, e2, Bool.or_false]) (by rw [h1]; simpa using h2) ⟨.str ⟨#[c]⟩, H, I.tok _, ⟨_, rfl⟩, q⟩) hs
/-! ### xs[i] = v, any sign -/
/-- the list's object behind a store -/
theorem mapSeq_set (its : List Value) (n j : Nat) (u : Value) : Obj.mapSeq (·.setIfInBounds j u) { cls := .type "list", data := .seq its.toArray n } = { cls := .type "list", data := .seq (its.set j u).toArray n } := by
  simp [Obj.mapSeq]
theorem Inv.lst {pins : List (Addr × Obj)} {σ : St} {H : Hp} {s : Shared} {p : Addr} {xs : List V} (I : Inv X pins σ H s) (h : H p = some (.lst xs)) :
    ∃ (its : List Value) (n : Nat), Vals xs its ∧ s.heap.get? p = some { cls := .type "list", data := .seq its.toArray n } ∧ xs.length ≤ sizeLine := by
  obtain ⟨z, its, n, r, e⟩ := I.hok p _ h
  exact ⟨its, n, r, e, z⟩
/-- the list at p is written by an update of its object -/
theorem Inv.lstUpd {pins : List (Addr × Obj)} {σ : St} {H : Hp} {s : Shared} {p : Addr} {xs ys : List V} {its its' : List Value} {n n' : Nat} {f : Obj → Obj} (I : Inv X pins σ H s) (h : H p = some (.lst xs))
    (ho : s.heap.get? p = some { cls := .type "list", data := .seq its.toArray n }) (hf : f { cls := .type "list", data := .seq its.toArray n } = { cls := .type "list", data := .seq its'.toArray n' }) (r : Vals ys its') (hz : ys.length ≤ sizeLine) (t : Nat) :
    Inv X pins σ (upd H p (.lst ys)) { s with heap := s.heap.update p f, toks := t } := by
  have e : (s.heap.update p f).get? p = some { cls := .type "list", data := .seq its'.toArray n' } := by
    rw [Heap.get?_update_self f ho (by rw [hf] <;> rfl), hf]
  refine I.write (x := p) (e := p) (by rw [h]; trivial) (.inl rfl) (fun b u hb q => (Heap.get?_update_other _ _ (Ne.symm hb)).trans q) ⟨_, e⟩ ?_
  exact ⟨hz, its', n', r, e⟩
inductive rSetL (o : V) (i : V) (v : V) (H : Hp) (Q : (Hp → Prop)) : Prop
  | mk (p : _) (xs : _) (k : _) (j : _) (_ : o = .ref p) (_ : i = .int k) (_ : H p = some (.lst xs)) (_ : ixN xs.length k = some j) (_ : Q (upd H p (.lst (xs.set j v)))) : rSetL  o i v H Q
theorem set_list : PSet X rSetL := by
  intro pins s σ H o i v ov iv u Q I ro ri rv h
  obtain ⟨p, xs, k, j, rfl, rfl, hp, hj, q⟩ := h
  cases ro
  obtain ⟨t, rfl⟩ := ri
  obtain ⟨its, n, r, ho, hz⟩ := I.lst hp
  obtain ⟨h1, h2, h3, h4⟩ := ixN_seq hj
  have hl := r.length
  have hn := line63
  have I' : Inv X pins σ (upd H p (.lst (xs.set j v))) { s with heap := s.heap.update p (Obj.mapSeq (·.setIfInBounds j u)) } :=
    I.lstUpd hp ho (mapSeq_set its n j u) (r.set rv j) (by rw [List.length_set]; exact hz) s.toks
  by_cases h0 : 0 ≤ k
  · have hk : k.toNat = j := by
      rw [seqIndex_of h0 h4] at h1
      exact Option.some.inj h1
    exact PySem.W.ki_setAt ho h0 (by omega) (by rw [List.size_toArray, ← hl]; exact h4) (by rw [hk]; exact ⟨_, I', q⟩)
  · have hk : (k + (its.toArray.size : Int)).toNat = j := by
      rw [seqIndex_neg (by omega) h3] at h1
      rw [List.size_toArray, ← hl]
      exact Option.some.inj h1
    exact PySem.W.ki_setBack ho (by omega) (by rw [List.size_toArray, ← hl]; exact h3) (by omega) (by rw [hk]; exact ⟨_, I', q⟩)

/-! ### slices -/
theorem slice_bounds (lo hi : Option Int) (n : Nat) : (sliceBounds lo hi none n).1 = ((HT.sIx n 0 lo : Nat) : Int) ∧ (sliceBounds lo hi none n).2.1 = ((HT.sIx n n hi : Nat) : Int) ∧ (sliceBounds lo hi none n).2.2 = 1 := by
  refine ⟨?_, ?_, rfl⟩
  · cases lo with
    | none => simp [sliceBounds, HT.sIx]
    | some i =>
      simp only [sliceBounds, HT.sIx, Option.getD_none, show (1 : Int) > 0 by decide, if_true]
      by_cases h : i < 0
      · simp only [h, if_true] <;> omega
      · simp only [h, if_false] <;> omega
  · cases hi with
    | none => simp [sliceBounds, HT.sIx]
    | some i =>
      simp only [sliceBounds, HT.sIx, Option.getD_none, show (1 : Int) > 0 by decide, if_true]
      by_cases h : i < 0
      · simp only [h, if_true] <;> omega
      · simp only [h, if_false] <;> omega
theorem slicePick_cut (its : List Value) (lo hi : Option Int) : slicePick its.toArray lo hi none = ((its.drop (HT.sIx its.length 0 lo)).take (HT.sIx its.length its.length hi - HT.sIx its.length 0 lo)).toArray := by
  obtain ⟨h1, h2, h3⟩ := slice_bounds lo hi its.toArray.size
  unfold slicePick
  rw [h1, h2, h3]
  simp only [sliceRange_one, pick_run, List.size_toArray] <;> rfl
/-- xs[lo:hi] of a list: a new list -/
inductive rSlL (K : PySem.W.Frag) (x : V) (lo : Option Int) (hi : Option Int) (H : Hp) (Q : VK) : Prop
  | mk (a : _) (xs : _) (_ : x = .ref a) (_ : SqL K H a xs) (_ : ∀ p, H p = none → Q (.ref p) (upd H p (.lst (cutV xs lo hi)))) : rSlL K x lo hi H Q
theorem sl_list : SlR X (rSlL X.K) := by
  intro pins s σ H x v vl vu lo hi sl Q I rx hs pl pu h
  obtain ⟨a, xs, rfl, hx, q⟩ := h
  cases rx
  obtain ⟨its, r, ht, hz⟩ := I.list hx
  have hlen := r.length
  refine ⟨"list", _, slot_list_getitem.lookup, ht.isList.typeIs, ?_⟩
  refine wpAny_getItem_list_slice ht.isList hs pl pu .none (by simp) ?_ (by rw [List.size_toArray] <;> omega)
  rw [slicePick_cut, ← hlen]
  refine ⟨.ref s.heap.objs.size, _, I.laid (t' := s.toks) (o := .lst (cutV xs lo hi)) (fun b ob q => Heap.get?_push_of_some _ q) (Nat.le_refl _) ?_, rfl, q _ (I.hok.fresh (Nat.le_refl _))⟩
  exact ⟨Nat.le_trans (cutV_length xs lo hi) hz, _, 0, (r.drop (HT.sIx xs.length 0 lo)).take (HT.sIx xs.length xs.length hi - HT.sIx xs.length 0 lo), Heap.get?_push_size _ rfl⟩

/-! ### in, not in: flat items -/
def flatV : V → Bool
  | .non => true
  | .bl _ => true
  | .int _ => true
  | .str _ => true
  | _ => false
/-- == of flat values -/
def eqV : V → V → Bool
  | .non, .non => true
  | .bl a, .bl b => a == b
  | .bl a, .int b => (if a then 1 else 0) == b
  | .int a, .bl b => a == (if b then 1 else 0)
  | .int a, .int b => a == b
  | .str a, .str b => a == b
  | _, _ => false
theorem eqAt_V {A : Around} {s : Shared} {y x : V} {u v : Value} (ry : RelV y u) (rx : RelV x v) (fy : flatV y = true) (fx : flatV x = true) : SeqAt.EqAt A s u v (eqV y x) := by
  cases y with
  | non =>
    cases ry
    cases x with
    | non => cases rx; exact SeqAt.EqAt.same _
    | bl b => cases rx; exact SeqAt.EqAt.none_bool b
    | int b => obtain ⟨t, rfl⟩ := rx; exact SeqAt.EqAt.none_int b t
    | str b => obtain ⟨t, rfl⟩ := rx; exact SeqAt.EqAt.none_str b t
    | _ => exact absurd (show false = true from fx) Bool.false_ne_true
  | bl a =>
    cases ry
    cases x with
    | non => cases rx; exact SeqAt.EqAt.bool_none a
    | bl b => cases rx; exact SeqAt.EqAt.bool_bool a b
    | int b => obtain ⟨t, rfl⟩ := rx; exact SeqAt.EqAt.bool_int a b t
    | str b => obtain ⟨t, rfl⟩ := rx; exact SeqAt.EqAt.bool_str a b t
    | _ => exact absurd (show false = true from fx) Bool.false_ne_true
  | int a =>
    obtain ⟨t', rfl⟩ := ry
    cases x with
    | non => cases rx; exact SeqAt.EqAt.int_none a t'
    | bl b => cases rx; exact SeqAt.EqAt.int_bool a t' b
    | int b => obtain ⟨t, rfl⟩ := rx; exact SeqAt.EqAt.int_int a t' b t
    | str b => obtain ⟨t, rfl⟩ := rx; exact SeqAt.EqAt.int_str a t' b t
    | _ => exact absurd (show false = true from fx) Bool.false_ne_true
  | str a =>
    obtain ⟨t', rfl⟩ := ry
    cases x with
    | non => cases rx; exact SeqAt.EqAt.str_none a t'
    | bl b => cases rx; exact SeqAt.EqAt.str_bool a t' b
    | int b => obtain ⟨t, rfl⟩ := rx; exact SeqAt.EqAt.str_int a t' b t
    | str b => obtain ⟨t, rfl⟩ := rx; exact SeqAt.EqAt.str_str a t' b t
    | _ => exact absurd (show false = true from fx) Bool.false_ne_true
  | _ => exact absurd (show false = true from fy) Bool.false_ne_true
/-- the items' answers, read off the values (a value's own answer does not lean on its token) -/
def eqU (x : V) (u : Value) : Bool := match u with
  | .none => eqV .non x
  | .bool b => eqV (.bl b) x
  | .int i _ => eqV (.int i) x
  | .str z _ => eqV (.str z) x
  | _ => false
theorem eqU_of {x y : V} {u : Value} (r : RelV y u) (f : flatV y = true) : eqU x u = eqV y x := by
  cases y with
  | non => cases r; rfl
  | bl b => cases r; rfl
  | int i => obtain ⟨t, rfl⟩ := r; rfl
  | str z => obtain ⟨t, rfl⟩ := r; rfl
  | _ => exact absurd (show false = true from f) Bool.false_ne_true
theorem mem_eqAt {A : Around} {s : Shared} {x : V} {v : Value} (rx : RelV x v) (fx : flatV x = true) : ∀ {xs : List V} {us : List Value}, Vals xs us → xs.all flatV = true → ∀ u ∈ us, SeqAt.EqAt A s u v (eqU x u)
  | _, _, .nil, _ => fun u hu => by cases hu
  | y :: xs, u :: us, .cons r t, f => fun u' hu => by
    rw [List.all_cons, Bool.and_eq_true] at f
    rcases List.mem_cons.mp hu with rfl | hu
    · rw [eqU_of r f.1]; exact eqAt_V r rx f.1 fx
    · exact mem_eqAt rx fx t f.2 u' hu
/-! ### len, list(x), tuple(x) of any list or tuple that is read -/
theorem call_len_seq : CallR X (.builtin "len") (fun xs H Q => ∃ p ys, xs = [.ref p] ∧ (SqL X.K H p ys ∨ SqT X.K H p ys) ∧ Q (.int ys.length) H) := by
  intro pins s σ H xs us Q I r h
  obtain ⟨p, ys, rfl, hq, q⟩ := h
  obtain ⟨u, rfl, rx⟩ := vals1 r
  cases rx
  have hn := line63
  rcases hq with hq | hq
  · obtain ⟨its, r', pl, hz⟩ := I.list hq
    have hlen := r'.length
    exact Calls.call_len_list pl.isList (by simp only [List.size_toArray] <;> omega) ⟨.int ys.length, H, I.tok _, ⟨s.toks + 1, by rw [List.size_toArray, hlen]⟩, q⟩
  · obtain ⟨its, r', pl, hz⟩ := I.tuple hq
    have hlen := r'.length
    exact len_tuple pl (by simp only [List.size_toArray] <;> omega) ⟨.int ys.length, H, I.tok _, ⟨s.toks + 1, by rw [List.size_toArray, hlen]⟩, q⟩
theorem call_len_str : CallR X (.builtin "len") (fun xs H Q => ∃ z, xs = [.str z] ∧ z.length ≤ sizeLine ∧ Q (.int z.length) H) := by
  intro pins s σ H xs us Q I r h
  obtain ⟨z, rfl, hz, q⟩ := h
  obtain ⟨u, rfl, t, rfl⟩ := vals1 r
  have hn := line63
  exact len_str (by omega) ⟨.int z.length, H, I.tok _, ⟨_, rfl⟩, q⟩
theorem call_list_of : CallR X (.type "list") (fun xs H Q => ∃ p ys, xs = [.ref p] ∧ (SqL X.K H p ys ∨ SqT X.K H p ys) ∧ ∀ l, H l = none → Q (.ref l) (upd H l (.lst ys))) := by
  intro pins s σ H xs us Q I r h
  obtain ⟨p, ys, rfl, hq, q⟩ := h
  obtain ⟨u, rfl, rx⟩ := vals1 r
  cases rx
  have fin : ∀ (its : List Value), Vals ys its → ys.length ≤ sizeLine → ∀ (h' : Heap) (c' : Nat), (∀ b o', s.heap.get? b = some o' → h'.get? b = some o') →
      h'.get? s.heap.objs.size = some { cls := .type "list", dict := none, data := .seq its.toArray c', slots := #[] } → EP X pins σ Q (.ref s.heap.objs.size) { s with heap := h' } := fun its r' hz h' c' kp e =>
    ⟨.ref s.heap.objs.size, _, I.laid (t' := s.toks) kp (Nat.le_refl _) (show ObjOk X.prog X.w _ h' _ (.lst ys) from ⟨hz, its, c', r', e⟩), rfl, q _ (I.hok.fresh (Nat.le_refl _))⟩
  rcases hq with hq | hq
  · obtain ⟨its, r', pl, hz⟩ := I.list hq
    have hlen := r'.length
    obtain ⟨o, ho, hc, n, hd⟩ := pl.isList
    exact call_list_seq p (.inl rfl) ho hc hd (fun h' c' kp e => fin its r' hz h' c' kp e) (by simp only [List.size_toArray] <;> omega)
  · obtain ⟨its, r', pl, hz⟩ := I.tuple hq
    have hlen := r'.length
    obtain ⟨o, ho, hc, n, hd⟩ := pl
    exact call_list_seq p (.inr rfl) ho hc hd (fun h' c' kp e => fin its r' hz h' c' kp e) (by simp only [List.size_toArray] <;> omega)
/-! ### the call of a builtin's method: o.m(..) -/
/-- the value is of that builtin type -/
def tyV (K : PySem.W.Frag) (T : String) (x : V) (H : Hp) : Prop := match x with
  | .str _ => T = "str"
  | .int _ => T = "int"
  | .ref p => (T = "list" ∧ ∃ xs, SqL K H p xs) ∨ (T = "tuple" ∧ ∃ o, K.lookup p = some o ∧ o.cls = .type "tuple" ∧ o.dict = none) ∨
      (T = "dict" ∧ ((∃ kvs, H p = some (.dK kvs)) ∨ ∃ kvs, H p = some (.dT kvs))) ∨ (T = "set" ∧ ∃ S n, H p = some (.set S n))
  | _ => False
theorem tyV_is {pins : List (Addr × Obj)} {σ : St} {H : Hp} {s : Shared} {T : String} {x : V} {v : Value} (I : Inv X pins σ H s) (r : RelV x v) (ty : tyV X.K T x H) :
    s.TypeIs v T ∧ ∀ a, v = .ref a → ∃ ob, s.heap.get? a = some ob ∧ ob.dict = none := by
  cases x with
  | str z =>
    obtain ⟨t, rfl⟩ := r
    cases (show T = "str" from ty)
    exact ⟨typeIs_str s z t, fun _ e => nomatch e⟩
  | int i =>
    obtain ⟨t, rfl⟩ := r
    cases (show T = "int" from ty)
    exact ⟨typeIs_int s i t, fun _ e => nomatch e⟩
  | ref p =>
    cases r
    rcases ty with ⟨rfl, xs, hq⟩ | ⟨rfl, o, hk, hc, hd⟩ | ⟨rfl, hk⟩ | ⟨rfl, S, n, hk⟩
    · obtain ⟨its, _, pl, _⟩ := I.list hq
      refine ⟨pl.isList.typeIs, fun a e => ?_⟩
      cases e
      obtain ⟨o, n, e, c, hd, _⟩ := pl
      exact ⟨o, e, hd⟩
    · refine ⟨⟨o, I.kIn p o hk, hc⟩, fun a e => ?_⟩
      cases e
      exact ⟨o, I.kIn _ o hk, hd⟩
    · have z : ∃ o, s.heap.get? p = some o ∧ o.ExactDict := by
        rcases hk with ⟨kvs, hk⟩ | ⟨kvs, hk⟩
        · obtain ⟨_, _, _, _, o, _, _, e, ex, _⟩ := I.hok p _ hk
          exact ⟨o, e, ex⟩
        · obtain ⟨_, _, _, _, o, _, _, e, ex, _⟩ := I.hok p _ hk
          exact ⟨o, e, ex⟩
      obtain ⟨o, e, ex⟩ := z
      refine ⟨⟨o, e, ex.1⟩, fun a e2 => ?_⟩
      cases e2
      exact ⟨o, e, ex.2.1⟩
    · obtain ⟨o, _, _, _, e, ex, _⟩ := I.hok p _ hk
      refine ⟨⟨o, e, ex.1⟩, fun a e2 => ?_⟩
      cases e2
      exact ⟨o, e, ex.2.1⟩
  | _ => exact False.elim ty
def tBM (K : PySem.W.Frag) (T : String) (r : V → List V → Hp → VK → Prop) (to : TE) (t : TA) : TE := fun σ H Q => to σ H fun x H1 => tyV K T x H1 ∧ t σ H1 fun xs H2 => r x xs H2 Q
variable {o e : Expr} {es : List Expr} {to : TE} {t : TA} {name : Str} {apos cpos : Pos} {T id : String} {r : V → List V → Hp → VK → Prop}
theorem pe_bm (pa : PlainAttrs T) (slot : Slot T name id) (hty : typeOf (.builtin id) = pure (.type "method_descriptor")) (hm : MtR X id r) (ho : PE X o to) (ha : PA X (e :: es) t)
    (hbase : attributeBase o name X.env (eval o X.env) = eval o X.env := by rfl)
    (hfew : ((backTo cpos (starEach (e :: es) X.env)).all (fun x => !x.1) && (backToKw cpos (keywordEach [] X.env)).all (fun x => x.1.isSome)
      && decide ((e :: es).length + ([] : List Keyword).length + (if ([] : List Keyword).isEmpty then 0 else 1) < 30)) = true := by rfl)
    (hline : (apos.endLine == cpos.line) = true := by rfl) (hs : starEach (e :: es) X.env = (false, eval e X.env) :: starEach es X.env := by rfl) (hplain : (backTo cpos (starEach es X.env)).any (·.1) = false := by rfl) :
    PE X (.Call (.Attribute o name apos) (e :: es) [] cpos) (tBM X.K T r to t) := by
  intro pins s σ H Q I h
  refine wpAny_Call_method_late hbase hfew hline rfl (thn (ho pins s σ H _ I h) fun v s1 ⟨x, H1, I1, r1, ty, q1⟩ => ?_)
  obtain ⟨h1, h2⟩ := tyV_is I1 r1 ty
  refine ⟨T, id, pa, slot, hty, h1, h2, ?_⟩
  have hA := ha cpos pins s1 σ H1 _ I1 q1
  rw [hs] at hA ⊢
  refine Calls.callWith_builtin (by show (false || (backTo cpos (starEach es X.env)).any (·.1)) = false; rw [hplain] <;> rfl) (Calls.evalArgs_plain ?_)
  exact thn hA fun us s2 ⟨vs, H2, I2, r2, q2⟩ => hm pins s2 σ H2 x vs v us Q I2 r1 r2 q2
/- xs.append(e), list.index on a module's tuple .. are MtR facts of 06m -/
end
end L2

namespace L2
open PySem PySem.Spec PyProof.Rows

def MtM (X : Cx) (id : String) (r : V → List V → Hp → VK → Prop) : Prop :=
  ∀ (pins : List (Addr × Obj)) (s : Shared) (σ : St) (H : Hp) (x : V) (xs : List V) (v : Value) (us : List Value) (Q : VK), Inv X pins σ H s → RelV x v → Vals xs us → r x xs H Q →
    wpAny (model X.prog X.w) X.A (call (.builtin id) (v :: us)) (EP X pins σ Q) X.xe s

/-! ### lists of values -/
theorem Vals.one : ∀ {x : V} {us : List Value}, Vals [x] us → ∃ u, us = [u] ∧ RelV x u
  | _, _, .cons r .nil => ⟨_, rfl, r⟩
section
variable {X : Cx} {pins : List (Addr × Obj)} {σ : St} {H : Hp} {s : Shared} {l b : Addr} {xs ys zs : List V}

/-! ### the two steps: a tracked list is rewritten, a new list is laid -/
theorem Inv.lset {its its' : List Value} {n : Nat} {f : Array Value → Array Value} {t' : Nat} (I : Inv X pins σ H s) (hH : H l = some (.lst xs))
    (e : s.heap.get? l = some { cls := .type "list", data := .seq its.toArray n }) (hf : f its.toArray = its'.toArray) (hv : Vals ys its') (hz : ys.length ≤ sizeLine) :
    Inv X pins σ (upd H l (.lst ys)) { s with heap := s.heap.update l (Obj.mapSeq f), toks := t' } := by
  have q := PySem.IsL.update e f
  rw [hf] at q
  refine I.write (x := l) (e := l) (by rw [hH]; exact trivial) (.inl rfl) (fun b' u hb hu => (Heap.get?_update_other s.heap (Obj.mapSeq f) (Ne.symm hb)).trans hu) ⟨_, q⟩ ?_
  exact ⟨hz, its', _, hv, q⟩
theorem Inv.lnew {its : List Value} {t' : Nat} (I : Inv X pins σ H s) (hv : Vals ys its) (hz : ys.length ≤ sizeLine) :
    Inv X pins σ (upd H s.heap.objs.size (.lst ys)) { s with heap := s.heap.push { cls := .type "list", data := .seq its.toArray }, toks := t' } :=
  I.laid (fun _ _ q => Heap.get?_push_of_some _ q) (Nat.le_refl _) ⟨hz, its, 0, hv, Heap.get?_push_size _ rfl⟩
theorem Inv.fresh (I : Inv X pins σ H s) : H s.heap.objs.size = none := I.hok.fresh (Nat.le_refl _)
theorem Inv.lstM (I : Inv X pins σ H s) (hH : H l = some (.lst xs)) : xs.length ≤ sizeLine ∧ ∃ (its : List Value) (n : Nat), Vals xs its ∧ xs.length = its.length ∧ s.heap.get? l = some { cls := .type "list", data := .seq its.toArray n } := by
  obtain ⟨z, its, n, r, e⟩ := I.hok l _ hH
  exact ⟨z, its, n, r, r.length, e⟩

theorem notLongL {n : Nat} (h : n ≤ sizeLine) : Builtin.List.listTooLong n = false := by
  unfold Builtin.List.listTooLong
  exact decide_eq_false (by omega)
end

section
variable {X : Cx}

/-! ### methods -/
inductive rAppend (x : V) (vs : List V) (H : Hp) (Q : VK) : Prop
  | mk (l : _) (xs : _) (y : _) (_ : x = .ref l) (_ : vs = [y]) (_ : H l = some (.lst xs)) (_ : xs.length < sizeLine) (_ : Q .non (upd H l (.lst (xs ++ [y])))) : rAppend  x vs H Q
theorem mt_append : MtM X "list.append" rAppend := by
  intro pins s σ H x vs v us Q I rx rv h
  obtain ⟨l, xs, y, rfl, rfl, hH, hz, q⟩ := h
  cases rx
  obtain ⟨u, rfl, ru⟩ := rv.one
  obtain ⟨z, its, n, r, hl, e⟩ := I.lstM hH
  refine call_meets F.slot_list_append ⟨_, e, rfl⟩ F.entry_list_append (F.args_list_append_2 _ _) (PySem.list_append l its.toArray n u (by rw [List.size_toArray]; omega)) ⟨e, ?_⟩
  refine ⟨.non, _, I.lset (its' := its ++ [u]) hH e (by simp) (r.append (.cons ru .nil)) ?_, rfl, q⟩
  rw [List.length_append, List.length_singleton]
  omega

def rExtend : V → List V → Hp → VK → Prop := fun x vs H Q => ∃ l b xs zs, x = .ref l ∧ vs = [.ref b] ∧ H l = some (.lst xs) ∧ H b = some (.lst zs) ∧ xs.length + zs.length ≤ sizeLine ∧ Q .non (upd H l (.lst (xs ++ zs)))
theorem mt_extend : MtM X "list.extend" rExtend := by
  intro pins s σ H x vs v us Q I rx rv h
  obtain ⟨l, b, xs, zs, rfl, rfl, hH, hB, hz, q⟩ := h
  cases rx
  obtain ⟨u, rfl, ru⟩ := rv.one
  cases ru
  obtain ⟨z, its, n, r, hl, e⟩ := I.lstM hH
  obtain ⟨z2, its2, n2, r2, hl2, e2⟩ := I.lstM hB
  have hsz : its.toArray.size + its2.toArray.size ≤ sizeLine := by rw [List.size_toArray, List.size_toArray]; omega
  have hlong : ¬ (!its.toArray.isEmpty && Builtin.List.listTooLong (its.toArray.size + its2.toArray.size)) = true := by
    rw [notLongL hsz, Bool.and_false]
    exact Bool.false_ne_true
  refine call_meets F.slot_list_extend ⟨_, e, rfl⟩ F.entry_list_extend (F.args_list_extend_2 _ _)
    (AutoSeq1.list_extend_list_list_0 l its.toArray n b its2.toArray n2 hlong (by rw [List.size_toArray]; omega) (by omega)) ⟨e, e2, ?_⟩
  refine ⟨.non, _, I.lset (its' := its ++ its2) hH e (by simp) (r.append r2) ?_, rfl, q⟩
  rw [List.length_append]
  omega

/-! ### list + list, list += list, list * int -/
inductive rCat (x : V) (y : V) (H : Hp) (Q : VK) : Prop
  | mk (l : _) (b : _) (xs : _) (zs : _) (_ : x = .ref l) (_ : y = .ref b) (_ : H l = some (.lst xs)) (_ : H b = some (.lst zs)) (_ : xs.length + zs.length ≤ sizeLine) (_ : ∀ p, H p = none → Q (.ref p) (upd H p (.lst (xs ++ zs)))) : rCat  x y H Q
theorem op_cat : OpR X (binaryOp .Add) rCat := by
  intro pins s σ H x y v u Q I rx ry h
  obtain ⟨l, b, xs, zs, rfl, rfl, hH, hB, hz, q⟩ := h
  cases rx
  cases ry
  obtain ⟨z, its, n, r, hl, e⟩ := I.lstM hH
  obtain ⟨z2, its2, n2, r2, hl2, e2⟩ := I.lstM hB
  refine PySem.P.add_list e e2 ?_ (by rw [List.size_toArray, List.size_toArray]; omega)
  have ea : its.toArray ++ its2.toArray = (its ++ its2).toArray := by simp
  rw [ea]
  exact ⟨.ref _, _, I.lnew (t' := s.toks) (r.append r2) (by rw [List.length_append]; omega), rfl, q _ I.fresh⟩
/-! ### del xs[i] -/
end

/-! ### xs[a:b] = ys -/
section
variable {prog : Program} {w : World} {A : Around} {E : Value → Shared → Prop} {s : Shared}
end

section
variable {X : Cx}
end
end L2

namespace Att
open PySem PySem.W PySem.Calls PyProof.Rows

/-! ### the script -/
theorem ints_of_wellAll {P : Params} {h : Heap} : ∀ (ns : List Int) (vs : List Value), WellAll P h vs (ns.map WData.int) → IntsAre vs ns := by
  intro ns
  induction ns with
  | nil =>
    intro vs w
    rw [List.map_nil] at w
    cases w
    exact .nil
  | cons n ns ih =>
    intro vs w
    rw [List.map_cons] at w
    cases w with
    | cons a b =>
      cases a
      exact .cons _ _ (ih _ b)

theorem script_of {l : OpenLaw} {n : Nat} (hn : l.most = some n) {P : Params} {h : Heap} {args : List WData} {vals : List Value}
    (hpre : l.row.toRowW.claim.pre args = true) (hwl : WellAll P h vals args) :
    ∃ a vs ns, vals = [Value.ref a] ∧ args = [WData.list (ns.map WData.int)] ∧ h.get? a = some { cls := .type "list", data := .seq vs.toArray } ∧ IntsAre vs ns ∧ ns.length ≤ n := by
  have hsh : WShape.hasAll [] args [.list .int] = true := (pre_splitW hpre).1
  have hc : l.pre.holds [] { args := args } = true := (pre_splitW hpre).2
  obtain ⟨d, r, rfl, h1, h2⟩ := hasAllW_cons hsh
  obtain rfl := hasAllW_nil h2
  obtain ⟨xs, rfl, h3⟩ := hasW_list h1
  obtain ⟨ns, rfl⟩ := items_int h3
  have hlen : ns.length ≤ n := by
    unfold OpenLaw.pre at hc
    have h4 : (WTm.not (.lt (.lit (.int (n : Int))) (.len (.arg 0)))).holds [] { args := [.list (ns.map .int)] } = true := by
      have h4 := (holds_andW hc).1
      rw [hn] at h4
      exact h4
    have h5 := condW_of h4 (w_not (w_lt w_lit (w_len_list (w_arg rfl))))
    rw [List.length_map] at h5
    refine Nat.le_of_not_lt fun q => ?_
    have q' : (n : Int) < ((ns.length : Nat) : Int) := by omega
    first
      | (rw [decide_eq_true q'] at h5; exact absurd h5 (by decide))
      | (simp at h5; omega)
  cases hwl with
  | cons w1 w2 =>
    cases w2
    cases w1 with
    | list ho hall => exact ⟨_, _, ns, rfl, rfl, ho, ints_of_wellAll ns _ hall, hlen⟩

theorem post_true (l : OpenLaw) (args : List WData) : l.row.toRowW.claim.post args (.bool true) args = true :=
  postW_of (r := l.row.toRowW) (X := (true == true))
    (show WShape.has [] (.bool true) .bool = true by first | rfl | decide | simp [WShape.has, WShape.arms, WShape.armsAll])
    (show (WTm.eq .res (.lit (.bool true))).value [] { args := args, res := some (.bool true), after := args } = some (.bool (true == true)) from w_eq_bool (w_res rfl) w_lit) rfl

/-! ### the attachment: holds_open's last premise (the goal 'hc' behind k_head) from a wpAny of the law's body -/
/-- the same from a codeAny of the CALL (for a layer whose function contracts speak of calls) -/
theorem attach_call {l : OpenLaw} {n : Nat} {q : Program} {loose : List Str} {XP : (Str → Option Value) → Heap → Prop} {YP : World → Heap → Prop} {d : DefRec}
    (hn : l.most = some n) (hdf : d.params.defaults = [])
    (call : ∀ (w : World) (s₀ s₁ : Shared) (mg mb : Str → Option Value) (fa : Addr) (o : Obj) (pm cd doc : Value) (a : Addr) (vs : List Value) (ns : List Int),
      Ground q loose [] XP w s₀ mg mb s₁.heap → YP w s₁.heap →
      s₁.heap.get? fa = some o → o.data = .func (docDef d.name d.params d.body d.scope pm cd doc) → s₁.heap.CodeRec cd d.name → mg d.name = some (.ref fa) →
      s₁.heap.get? a = some { cls := .type "list", data := .seq vs.toArray } → IntsAre vs ns → ns.length ≤ n → s₁.gens = #[] →
      codeAny (model l.prog w) callerA (.call (.ref fa) ⟨[.ref a], []⟩) (fun r s' => r = .ok (.ret (.bool true)) ∧ OldK s₁.heap s'.heap ∧ s'.os = s₁.os ∧ AllBare s'.gens) s₁) :
    WalkO q loose XP YP l.row.toRowW d [] (fun f vs => PySem.call f vs) := by
  intro w s₀ s₁ mg mb G Y fa o pm cd doc dV kV ho hd hcd hD hmg hg args vals as hpre hlay hrd hwl hlo
  obtain rfl : dV = .none := Dflts.none hD hdf
  obtain rfl : kV = .none := Dflts.noKw hD
  obtain ⟨a, vs, ns, rfl, rfl, hobj, hints, hlen⟩ := script_of hn hpre hwl
  refine enter_call (codeAny_mono (call w s₀ s₁ mg mb fa o pm cd doc a vs ns G Y ho (fd_plain hd) hcd hmg hobj hints hlen hg) fun r s' hq => ?_)
  obtain ⟨rfl, h2, h3, h4⟩ := hq
  exact ⟨.inl ⟨.bool true, .bool true, [], rfl, fun _ => rfl, .bool true, post_true l _, fun _ => ⟨List.Pairwise.nil, fun _ hm => (nomatch hm)⟩⟩, h2, h3, h4⟩

/-! ### rules over ANY heap (no ledger) from facts about the written part K: the library's own take a ledger (News) for what they write -/
section
variable {prog : Program} {w : World} {A : Around} {E : Value → Shared → Prop} {s : Shared} {K : Frag}

/-! the whole heap as the ledger: makes every rule that writes through a ledger a rule over any heap -/
def ledger (h : Heap) (L d : Addr) : List (Addr × Obj) := (List.range h.objs.size).filterMap fun a => if a = L ∨ a = d then none else (h.get? a).map fun o => (a, o)
end
end Att

namespace L2
open PySem PySem.Spec PyProof.Rows

theorem vals_ints : ∀ {vs : List Value} {ns : List Int}, IntsAre vs ns → Vals (ns.map V.int) vs
  | _, _, .nil => .nil
  | _, _, .cons n t h => .cons ⟨t, rfl⟩ (vals_ints h)

/-- nothing is tracked but the script, known to the object (or it is an object of the module) -/
def Only (H : Hp) : Prop := ∀ b, H b = none ∨ ∃ o xs, H b = some (.frz o (.lst xs))

/-- THE HEAD: the law's promise, at the heap behind the top. F, the promise of the law's def, may use that base is part of the heap (so K.In base, base.Ns mainGlobals mg stand in Mod) -/
theorem law_call {cm : Bool} {P : Program} {w : World} {K : PySem.W.Frag} {mg mb : Str → Option Value} {CX : CXT} {k : Nat} {fa a : Addr} {fd : FuncData} {x : Str} {sp : Sp} {s₁ : Shared} {vs : List Value} {ns : List Int}
    (KX : K.In s₁.heap) (hns : s₁.heap.Ns mainGlobals mg) (hb : s₁.heap.Ns builtinsNs mb) (hbb : ∀ x : Str, x ≠ "__name__" → mb x = bootBuiltins x) (hlim : s₁.heap.NoLimit) (hg : s₁.gens = #[])
    (ha : s₁.heap.get? a = some { cls := .type "list", data := .seq vs.toArray }) (hi : IntsAre vs ns) (hl : ns.length ≤ sizeLine) (hr : Room cm k callerA)
    (F : ∀ base : Heap, K.In base → base.Ns mainGlobals mg → FnOk P w K mg base CX cm k fa fd [x] sp) (hbind : ∀ (s : Shared) (u : Value), BindsTo s fd ⟨[u], []⟩ [(x, u)])
    (hsp : ∀ H : Hp, Only H → SqL K H a (ns.map V.int) → sp [.ref a] H (fun v _ => v = .bl true) fun _ _ _ => False)
    (hCX : ∀ H e s', CX [] H s₁ (fun _ _ _ => False) e s' → False) :
    codeAny (model P w) callerA (.call (.ref fa) ⟨[.ref a], []⟩) (fun r s' => r = .ok (.ret (.bool true)) ∧ OldK s₁.heap s'.heap ∧ s'.os = s₁.os ∧ AllBare s'.gens) s₁ := by
  have rv := vals_ints hi
  have lenV := hi.length
  -- from an abstract heap in which nothing but the script may be tracked
  have core : ∀ H : Hp, Only H → SqL K H a (ns.map V.int) → HOk P w H s₁.heap → (∀ b, H b ≠ none → b = a) → (H a ≠ none → K.lookup a = none) →
      codeAny (model P w) callerA (.call (.ref fa) ⟨[.ref a], []⟩) (fun r s' => r = .ok (.ret (.bool true)) ∧ OldK s₁.heap s'.heap ∧ s'.os = s₁.os ∧ AllBare s'.gens) s₁ := by
    intro H hO hS hok hA hK
    have base_of : ∀ {b : Addr} {o : Obj}, s₁.heap.get? b = some o → H b = none → (hidT s₁.heap H).get? b = some o := fun e n => hidT_get e n
    have noA : ∀ {b : Addr} {o : Obj} {es : Array DictEntry} {ep : Nat}, s₁.heap.get? b = some o → o.data = .dict es ep → H b = none := fun {b o es ep} e d => by
      cases q : H b with
      | none => rfl
      | some u =>
        have e' : b = a := hA b (by rw [q]; simp)
        subst e'
        rw [ha] at e; cases e
        have d' : Data.seq vs.toArray _ = Data.dict es ep := d
        cases d'
    have nsK : ∀ {b : Addr} {m : Str → Option Value}, s₁.heap.Ns b m → (hidT s₁.heap H).Ns b m := fun {b m} ⟨o, es, ep, e, d, r⟩ => ⟨o, es, ep, base_of e (noA e d), d, r⟩
    have hKb : K.In (hidT s₁.heap H) := fun b o e => base_of (KX b o e) (by
      cases q : H b with
      | none => rfl
      | some u =>
        have e' : b = a := hA b (by rw [q]; simp)
        subst e'
        rw [hK (by rw [q]; simp)] at e; cases e)
    have hM : Mod K mg (hidT s₁.heap H) := ⟨hKb, nsK hns, ⟨mb, nsK hb, hbb⟩, let ⟨mc, h1, h2⟩ := hlim; ⟨mc, nsK h1, h2⟩⟩
    have e0 : Env0 P w K mg (hidT s₁.heap H) callerA [] s₁ H := ⟨rfl, hM, fun b o e => of_hidT e, Nat.le_of_eq (hidT_size _ _), trivial, fun b hb => absurd (show b ∈ ([] : List Addr) from hb) (by simp), hok, .of_eq hg⟩
    refine codeAny_mono ((F _ hKb (nsK hns)).run callerA [] s₁ H ⟨[.ref a], []⟩ [.ref a] [.ref a] _ _ hr e0 (hbind s₁ (.ref a)) (.cons rfl .nil) (hsp H hO hS)) fun r s' h => ?_
    cases r with
    | error e => exact (hCX H e s' h).elim
    | ok fl =>
      cases fl with
      | next => exact False.elim h
      | brk => exact False.elim h
      | cont => exact False.elim h
      | ret u =>
        obtain ⟨v, H', os, bare, un, hok', r', q⟩ := h
        have q' : v = .bl true := q
        subst q'
        obtain rfl : u = Value.bool true := r'
        refine ⟨rfl, OldK.of_keep fun b o e => ?_, os, bare⟩
        cases q : H b with
        | none => exact un.keep b o e q (by intro z; exact absurd (show b ∈ ([] : List Addr) from z) (by simp)) (by simp)
        | some u =>
          rcases hO b with z | ⟨ob, xs, z⟩
          · rw [q] at z; cases z
          · have z2 := un.frzs b ob _ z
            obtain ⟨e1, _⟩ := hok b _ z
            obtain ⟨e2, _⟩ := hok' b _ z2
            rw [e] at e1; cases e1
            exact e2
  cases hk : K.lookup a with
  | some o =>
    -- the script is one of the module's own objects
    have e := KX a o hk
    rw [ha] at e
    cases e
    refine core (fun _ => none) (fun _ => .inl rfl) (.inr ⟨_, vs.toArray, _, hk, rfl, rfl, rfl, by rw [List.size_toArray, lenV]; exact hl, by simpa using rv⟩) (fun b u z => by have z' : (none : Option HO) = some u := z; cases z') (fun b z => absurd rfl z) fun z => absurd rfl z
  | none =>
    refine core (fun b => if b = a then some (.frz { cls := .type "list", data := .seq vs.toArray } (.lst (ns.map V.int))) else none) (fun b => ?_) (.inl (.inr ⟨{ cls := .type "list", data := .seq vs.toArray }, if_pos rfl⟩)) (fun b u z => ?_) (fun b z => ?_) fun _ => hk
    · by_cases hb : b = a
      · exact .inr ⟨_, _, if_pos hb⟩
      · exact .inl (if_neg hb)
    · by_cases hb : b = a
      · have z' := (if_pos hb).symm.trans z
        cases z'
        subst hb
        exact ⟨ha, by rw [List.length_map]; exact hl, vs, _, rv, ha⟩
      · have z' := (if_neg hb).symm.trans z
        cases z'
    · by_cases hb : b = a
      · exact hb
      · exact absurd (if_neg hb) z
end L2

namespace L2
open PySem PySem.Spec PyProof.Rows

/-- the goal that k_head leaves (case hc), from the law's promise. F gives the function object fd (K's own) once, then the promise over every base -/
theorem walk_of {cm : Bool} {l : PySem.W.OpenLaw} {n k : Nat} {q : Program} {loose : List Str} {XP : (Str → Option Value) → Heap → Prop} {YP : World → Heap → Prop} {d : DefRec} {K : Params → PySem.W.Frag} {CX : World → CXT} {sp : World → Sp} {x : Str}
    (hn : l.most = some n) (hn2 : n ≤ sizeLine) (hdf : d.params.defaults = []) (hr : Room cm k callerA)
    (hY : ∀ (w : World) (h : Heap), YP w h → (K w.params).In h)
    (F : ∀ (w : World) (mg : Str → Option Value) (fa : Addr) (h : Heap), (K w.params).In h → h.Ns mainGlobals mg → mg d.name = some (.ref fa) →
      ∃ fd : FuncData, (∀ (s : Shared) (u : Value), BindsTo s fd ⟨[u], []⟩ [(x, u)]) ∧
        ∀ base : Heap, (K w.params).In base → base.Ns mainGlobals mg → FnOk l.prog w (K w.params) mg base (CX w) cm k fa fd [x] (sp w))
    (hsp : ∀ (w : World) (H : Hp) (a : Addr) (ns : List Int), ns.length ≤ n → Only H → SqL (K w.params) H a (ns.map V.int) → sp w [.ref a] H (fun v _ => v = .bl true) fun _ _ _ => False)
    (hCX : ∀ (w : World) (H : Hp) (s : Shared) (e : Value) (s' : Shared), CX w [] H s (fun _ _ _ => False) e s' → False) :
    PySem.W.WalkO q loose XP YP l.row.toRowW d [] (fun f vs => PySem.call f vs) := by
  refine Att.attach_call hn hdf fun w s₀ s₁ mg mb fa o pm cd doc a vs ns G Y ho hd hcd hmg hobj hints hlen hg => ?_
  have KX := hY w _ Y
  obtain ⟨fd, hb, hF⟩ := F w mg fa _ KX G.T.g hmg
  exact law_call KX G.T.g G.T.b G.T.builtins G.T.nolimit hg hobj hints (Nat.le_trans hlen hn2) hr hF hb (fun H hO hS => hsp w H a ns hlen hO hS) fun H e s' => hCX w H s₁ e s'
end L2



/-! SHORT WORDS over the layer: a def of the text, its body, what a loop and a test want. -/
namespace L2
open PySem PySem.Spec PyProof.Rows

/-! ### the text by places -/
/-- the j-th statement of a class's body -/
def inClass (s : Stmt) (j : Nat) : Stmt := match s with
  | .ClassDef _ _ _ body _ _ _ _ _ _ _ => body.getD j (.Pass ⟨0, 0, 0, 0⟩)
  | _ => .Pass ⟨0, 0, 0, 0⟩
def defArgs (s : Stmt) : Arguments := match s with
  | .FunctionDef _ a _ _ _ _ _ _ _ _ => a
  | _ => { posonlyargs := [], args := [], vararg := none, kwonlyargs := [], kw_defaults := [], kwarg := none, defaults := [] }
def defBody (s : Stmt) : List Stmt := match s with
  | .FunctionDef _ _ b _ _ _ _ _ _ _ => b
  | _ => []
def defScope (s : Stmt) : Scope := match s with
  | .FunctionDef _ _ _ _ _ _ sc _ _ _ => sc
  | _ => { kind := .function, names := [], isGenerator := false, isCoroutine := false }

/-! ### no exception leaves a def -/
abbrev E0 : XK := fun _ _ _ => False
/-! ### a def (or method) of the text as it stands behind the top -/
structure Fun (K : PySem.W.Frag) (x qual : Str) (st : Stmt) (f : Addr) (fd : FuncData) : Prop where
  ex : ∃ (oc : Value) (od : Option Addr) (kV doc pm : Value) (an : Option Addr) (cdv ct : Value) (osl : Array (Option Value)),
    fd = PySem.W.fnOf x qual (defArgs st) (defBody st) (defScope st) .none kV doc pm an cdv ct ∧ K.lookup f = some ⟨oc, od, .func fd, osl⟩ ∧ PySem.W.codeIn K cdv qual = true
  kp : PySem.W.keepIn K (.ref f) = true
section
variable {P : Program} {w : World} {K : PySem.W.Frag} {mg : Str → Option Value} {base : Heap}
/-- how its arguments bind (no defaults): h is «fun _ _ _ _ _ _ us hl => match us, hl with | [_, _], _ => rfl», one _ a parameter -/
theorem Fun.binds {x qual : Str} {st : Stmt} {f : Addr} {fd : FuncData} {ps : List Str} (F : Fun K x qual st f fd)
    (h : ∀ (kV doc pm : Value) (an : Option Addr) (cdv ct : Value) (us : List Value), us.length = ps.length → bindArgs (PySem.W.fnOf x qual (defArgs st) (defBody st) (defScope st) .none kV doc pm an cdv ct) ⟨us, []⟩ = pure (ps.zip us)) : Binds K fd ps [] := by
  obtain ⟨oc, od, kV, doc, pm, an, cdv, ct, osl, rfl, lk, hcd⟩ := F.ex
  exact .all (h kV doc pm an cdv ct)
theorem fun_mk {x qual : Str} {st : Stmt} {f : Addr} {oc : Value} {od an : Option Addr} {osl : Array (Option Value)} {kV doc pm cdv ct : Value} (l : K.lookup f = some ⟨oc, od, .func (PySem.W.fnOf x qual (defArgs st) (defBody st) (defScope st) .none kV doc pm an cdv ct), osl⟩)
    (c : PySem.W.codeIn K cdv qual = true) (k : PySem.W.keepIn K (.ref f) = true) : Fun K x qual st f (PySem.W.fnOf x qual (defArgs st) (defBody st) (defScope st) .none kV doc pm an cdv ct) := ⟨⟨oc, od, kV, doc, pm, an, cdv, ct, osl, rfl, l, c⟩, k⟩
end
/-! ### expressions in short: the name that stands in the i-th slot -/
section
variable {X : Cx}
theorem pv (i : Nat) {x : Str} {pos : Pos} (hN : X.N[i]? = some x := by rfl) (hv : Vis X.env.scope x := by first | exact Or.inl rfl | exact Or.inr (Or.inl rfl) | exact Or.inr (Or.inr rfl)) (hd : (x == ("__debug__" : Str)) = false := by decide)
    (hcd : (x == ("__classdict__" : Str)) = false := by decide) : PE X (.Name x pos) (tVar i) := pe_var hN hv hd hcd
end

/-! ### tests -/
theorem iteF {A B : Prop} (h : B) : if false = true then A else B := by
  rw [if_neg Bool.false_ne_true]
  exact h
theorem iteT {A B : Prop} (h : A) : if true = true then A else B := by
  rw [if_pos rfl]
  exact h
theorem ite2 {c A B : Prop} [Decidable c] (h1 : c → A) (h2 : ¬ c → B) : if c then A else B := by
  by_cases h : c
  · rw [if_pos h]
    exact h1 h
  · rw [if_neg h]
    exact h2 h
/-! ### heaps -/
/-- all that was tracked is as it was -/
def Same (H H' : Hp) : Prop := ∀ b o, H b = some o → H' b = some o
theorem Same.refl (H : Hp) : Same H H := fun _ _ h => h
theorem Same.trans {H H1 H2 : Hp} (a : Same H H1) (b : Same H1 H2) : Same H H2 := fun c o h => b c o (a c o h)
theorem Same.free {H H' : Hp} (e : Same H H') {l : Addr} (h : H' l = Option.none) : H l = Option.none := by
  cases q : H l with
  | none => rfl
  | some o =>
    rw [e l o q] at h
    cases h
theorem Same.seq {K : PySem.W.Frag} {H H' : Hp} {a : Addr} {xs : List V} (e : Same H H') (h : SqL K H a xs) : SqL K H' a xs := by
  rcases h with (h | ⟨o, h⟩) | h
  · exact .inl (.inl (e _ _ h))
  · exact .inl (.inr ⟨o, e _ _ h⟩)
  · exact .inr h

/-! ### a dict's pairs: keys that differ -/
section
variable {κ : Type} [DecidableEq κ]
theorem valV_not {kvs : List (κ × V)} {k : κ} (h : valV kvs k = none) : ¬ k ∈ kvs.map (·.1) := by
  intro m
  obtain ⟨p, hp, e⟩ := List.mem_map.mp m
  have q : (kvs.any fun kv => decide (kv.1 = k)) = true := List.any_eq_true.mpr ⟨p, hp, decide_eq_true e⟩
  rw [valV_any, h] at q
  exact absurd q (by simp)
theorem valV_in {kvs : List (κ × V)} {k : κ} {v : V} (h : valV kvs k = some v) : k ∈ kvs.map (·.1) := by
  have q : (kvs.any fun kv => decide (kv.1 = k)) = true := by
    rw [valV_any, h]
    all_goals rfl
  obtain ⟨p, hp, e⟩ := List.any_eq_true.mp q
  exact List.mem_map.mpr ⟨p, hp, of_decide_eq_true e⟩
end
end L2


set_option Elab.async false
set_option linter.all false
set_option maxRecDepth 100000
namespace L2
open PySem PySem.Spec PyProof.Rows PySem.W

/-! ### exceptions -/
/-- how an exception of the program lies behind a call -/
def CXF (P : Program) (w : World) : CXT := fun outer H s E e s' =>
  ∃ (ea : Addr) (cls a0 : Value) (B : Heap) (H' : Hp), e = .ref ea ∧ s'.os = s.os ∧ AllBare s'.gens ∧ Heap.FlyingW B outer ea cls a0 s'.heap ∧
    Un (frs outer) [] H H' s.heap s'.heap ∧ HOk P w H' B ∧ (∀ b o, s.heap.get? b = some o → H b = none → b ∉ frs outer → B.get? b = some o) ∧ (∀ b o, s.heap.get? b = some o → b ∉ frs outer → ∃ o', B.get? b = some o') ∧ E cls none H'

theorem passF {P : Program} {w : World} {X : Cx} : Passes (CXF P w) X (fun _ => E0) := fun _ _ _ _ _ _ _ ⟨_, _, _, _, _, _, _, _, _, _, _, _, _, h⟩ => h.elim

/-- what an exception that is raised or passes here must lead to -/
structure XOk (X : Cx) (E : St → XK) : Prop where
  raise : ∀ (pins : List (Addr × Obj)) (σ : St) (H : Hp) (s : Shared) (h' : Heap) (e : Addr) (cls : Value) (args : List Value), Inv X pins σ H s → Heap.MadeExcOf s.heap h' e cls args → E σ cls none H → X.xe (.ref e) { s with heap := h' }
  pass : Passes (CXF X.prog X.w) X E
  own : PassesOwn (model X.prog X.w) X.A X.env X.xe

theorem HOk.hide {P : Program} {w : World} {H : Hp} {h : Heap} {as : List Addr} (ok : HOk P w H h) (hf : ∀ b ∈ as, H b = none) : HOk P w H (hideAll h as) := fun a o e =>
  (ok a o e).stay (fun b u hb q => hideAll_get _ q fun hm => by
    rcases hb with rfl | hb
    · rw [hf _ hm] at e; cases e
    · rw [hf _ hm] at hb; cases hb) (fun b q => q) fun b xs q => q

section
variable {P : Program} {w : World} {K : PySem.W.Frag} {mg : Str → Option Value} {base : Heap} {N : List Str} {qual : Str} {scope : Scope} {f : Addr} {cd : Value} {A : Around} {outer : List Env} {s : Shared} {H : Hp} {E : XK} {cm : Bool}

theorem tracked_in {P : Program} {w : World} {H : Hp} {h : Heap} {a : Addr} {o : HO} (x : ObjOk P w H h a o) : ∃ q, h.get? a = some q := by
  cases o with
  | lst xs => obtain ⟨_, its, n, _, e⟩ := x; exact ⟨_, e⟩
  | tup xs => obtain ⟨_, its, _, o, e, _⟩ := x; exact ⟨_, e⟩
  | dK kvs => obtain ⟨_, _, vs, _, o, es, ep, e, _⟩ := x; exact ⟨_, e⟩
  | dT kvs => obtain ⟨_, _, xs, _, o, es, ep, e, _⟩ := x; exact ⟨_, e⟩
  | set S n => obtain ⟨o, es, ep, t, e, _⟩ := x; exact ⟨_, e⟩
  | ins C dx fs => obtain ⟨_, _, _, e, _⟩ := x; exact ⟨_, e⟩
  | own y => exact x
  | xd fs => obtain ⟨mA, ⟨o, es, ep, e, _⟩, _⟩ := x; exact ⟨_, e⟩
  | met f y => exact ⟨_, x⟩
  | rng lo hi => obtain ⟨t, u, v, e⟩ := x; exact ⟨_, e⟩
  | frz o u => exact ⟨_, x.1⟩
  | tbl ps => exact ⟨_, x⟩
  | ext φ => exact x.2.1

/-- the two stations of a def's body: an exception made here, one that comes from a callee -/
theorem xok_def : XOk (cxOf (CXF P w) cm P w K mg base N qual scope f cd A outer s H E) (fun _ => E) := by
  refine ⟨?_, ?_, PassesOwn.leaving⟩
  · intro pins σ H1 s1 h' e cls args I hx hE
    have hfr : (A.deeper (envOfC qual scope s.heap.objs.size f cd)).frames = some (envOfC qual scope s.heap.objs.size f cd :: outer) := I.ok.frames
    have hst : s1.heap.FunFrames base (envOfC qual scope s.heap.objs.size f cd :: outer) := I.stack
    have hin : ∀ env ∈ (envOfC qual scope s.heap.objs.size f cd :: outer), ∀ b, env.frame = some b → b ∈ (envOfC qual scope s.heap.objs.size f cd :: outer).filterMap (·.frame) := fun env he b hb => List.mem_filterMap.mpr ⟨env, he, hb⟩
    have hfree : ∀ b ∈ (envOfC qual scope s.heap.objs.size f cd :: outer).filterMap (·.frame), H1 b = none := I.stkFree
    show wpAny (model P w) (A.deeper (envOfC qual scope s.heap.objs.size f cd)) (leaving (envOfC qual scope s.heap.objs.size f cd) (.ref e)) (fun _ s'' => CXF P w outer H s E (.ref e) s'') (fun e' s'' => CXF P w outer H s E e' s'') { s1 with heap := h' }
    have hloc : ∀ b o, s.heap.get? b = some o → b ∉ frs outer → b ∉ (envOfC qual scope s.heap.objs.size f cd :: outer).filterMap (·.frame) := fun b o q hb hm => by
      obtain ⟨env, he, hf⟩ := List.mem_filterMap.mp hm
      rcases List.mem_cons.mp he with rfl | he
      · have z : s.heap.objs.size = b := Option.some.inj hf
        exact absurd (Heap.lt_size q) (by rw [z]; exact Nat.lt_irrefl _)
      · exact hb (List.mem_filterMap.mpr ⟨env, he, hf⟩)
    refine wpAny_leaves_madeW (s := { s1 with heap := h' }) (h := s1.heap) (base := hideAll s1.heap ((envOfC qual scope s.heap.objs.size f cd :: outer).filterMap (·.frame))) (L := s.heap.objs.size) hfr rfl (fun b o q => of_hideAll _ q) (funFrames_hide hst hin) hx fun h2 t x1 x2 x3 x4 => ?_
    have bs : Un (frs outer) [] H H1 s.heap s1.heap := I.base
    have kB : ∀ b o, s.heap.get? b = some o → H b = none → b ∉ frs outer → (hideAll s1.heap ((envOfC qual scope s.heap.objs.size f cd :: outer).filterMap (·.frame))).get? b = some o := fun b o q hn hb =>
      hideAll_get _ (bs.keep b o q hn hb (by simp)) (hloc b o q hb)
    have hB : HOk P w H1 (hideAll s1.heap ((envOfC qual scope s.heap.objs.size f cd :: outer).filterMap (·.frame))) := I.hok.hide hfree
    refine ⟨e, cls, .ref t, _, H1, rfl, I.os, I.bare, x1, ?_, hB, kB, fun b o q hb => ?_, hE⟩
    rotate_left
    · obtain ⟨o', e1⟩ := bs.there b o q (by simp)
      exact ⟨o', hideAll_get _ e1 (hloc b o q hb)⟩
    refine ⟨fun b o q hn hb _ => x1.1 b o (kB b o q hn hb), fun b o q hn hb _ => ?_, fun b o q hn _ => bs.free b o q hn (by simp), fun b o q _ => ?_, bs.tups, bs.frzs, bs.tbls⟩
    · obtain ⟨sl, e1⟩ := bs.slot b o q hn hb (by simp)
      have hfo : s1.heap.FunFrames base outer := hst.2.2
      obtain ⟨_, o2, e2, hnf⟩ := hfo.mem hb
      rw [e1] at e2
      cases e2
      obtain ⟨sl2, e3⟩ := x4 b _ (hx.keeps _ _ e1) hnf
      exact ⟨sl2, e3⟩
    · cases q1 : H1 b with
      | some u =>
        obtain ⟨oo, z⟩ := tracked_in (hB b u q1)
        exact ⟨oo, x1.1 b oo z⟩
      | none =>
        cases q0 : H b with
        | none =>
          by_cases hb : b ∈ frs outer
          · obtain ⟨sl, e1⟩ := bs.slot b o q q0 hb (by simp)
            have hfo : s1.heap.FunFrames base outer := hst.2.2
            obtain ⟨_, o2, e2, hnf⟩ := hfo.mem hb
            rw [e1] at e2
            cases e2
            obtain ⟨sl2, e3⟩ := x4 b _ (hx.keeps _ _ e1) hnf
            exact ⟨_, e3⟩
          · exact ⟨o, x1.1 b o (kB b o q q0 hb)⟩
        | some u =>
          obtain ⟨o', e1⟩ := bs.there b o q (by simp)
          by_cases hb : b ∈ frs outer
          · have hfo : s1.heap.FunFrames base outer := hst.2.2
            obtain ⟨_, o2, e2, hnf⟩ := hfo.mem hb
            obtain ⟨sl2, e3⟩ := x4 b _ (hx.keeps _ _ e2) hnf
            exact ⟨_, e3⟩
          · exact ⟨o', x1.1 b o' (hideAll_get _ e1 (hloc b o q hb))⟩
  · rintro pins σ H1 s1 e s2 I ⟨ea, cls, a0, B, H', rfl, os, bare, hfl, un, hB, kB, tB, hE⟩
    have hfr : (A.deeper (envOfC qual scope s.heap.objs.size f cd)).frames = some (envOfC qual scope s.heap.objs.size f cd :: outer) := I.ok.frames
    show wpAny (model P w) (A.deeper (envOfC qual scope s.heap.objs.size f cd)) (leaving (envOfC qual scope s.heap.objs.size f cd) (.ref ea)) (fun _ s'' => CXF P w outer H s E (.ref ea) s'') (fun e' s'' => CXF P w outer H s E e' s'') s2
    have hfl : Heap.FlyingW B (envOfC qual scope s.heap.objs.size f cd :: outer) ea cls a0 s2.heap := hfl
    have un : Un (frs (envOfC qual scope s.heap.objs.size f cd :: outer)) [] H1 H' s1.heap s2.heap := un
    have kB : ∀ b o, s1.heap.get? b = some o → H1 b = none → b ∉ frs (envOfC qual scope s.heap.objs.size f cd :: outer) → B.get? b = some o := kB
    have hloc : ∀ b o, s.heap.get? b = some o → b ∉ frs outer → b ∉ frs (envOfC qual scope s.heap.objs.size f cd :: outer) := fun b o q hb hm => by
      obtain ⟨env, he, hf⟩ := List.mem_filterMap.mp hm
      rcases List.mem_cons.mp he with rfl | he
      · have z : s.heap.objs.size = b := Option.some.inj hf
        exact absurd (Heap.lt_size q) (by rw [z]; exact Nat.lt_irrefl _)
      · exact hb (List.mem_filterMap.mpr ⟨env, he, hf⟩)
    have hup : ∀ b, b ∈ frs outer → b ∈ frs (envOfC qual scope s.heap.objs.size f cd :: outer) := fun b hb => by
      obtain ⟨env, he, hf⟩ := List.mem_filterMap.mp hb
      exact List.mem_filterMap.mpr ⟨env, List.mem_cons_of_mem _ he, hf⟩
    have bs : Un (frs outer) [] H H1 s.heap s1.heap := I.base
    refine wpAny_leaves_onW (L := s.heap.objs.size) hfr rfl hfl fun h2 x1 x4 => ?_
    have kB2 : ∀ b o, s.heap.get? b = some o → H b = none → b ∉ frs outer → B.get? b = some o := fun b o q hn hb => kB b o (bs.keep b o q hn hb (by simp)) (bs.free b o q hn (by simp)) (hloc b o q hb)
    have hfo : s2.heap.FunFrames B outer := hfl.2.2.1.2.2
    refine ⟨ea, cls, a0, B, H', rfl, os.trans I.os, bare, x1, ?_, hB, kB2, fun b o q hb => ?_, hE⟩
    rotate_left
    · obtain ⟨o', e1⟩ := bs.there b o q (by simp)
      exact tB b o' e1 (hloc b o q hb)
    refine ⟨fun b o q hn hb _ => x1.1 b o (kB2 b o q hn hb), fun b o q hn hb _ => ?_, fun b o q hn _ => ?_, fun b o q _ => ?_, fun b xs q => un.tups b xs (bs.tups b xs q), fun b o u q => un.frzs b o u (bs.frzs b o u q), fun b ps q => ?_⟩
    · obtain ⟨sl, e1⟩ := bs.slot b o q hn hb (by simp)
      obtain ⟨sl1, e2⟩ := un.slot b _ e1 (bs.free b o q hn (by simp)) (hup b hb) (by simp)
      obtain ⟨_, o2, e3, hnf⟩ := hfo.mem hb
      rw [e2] at e3
      cases e3
      obtain ⟨sl2, e4⟩ := x4 b _ e2 hnf
      exact ⟨sl2, e4⟩
    · by_cases hb : b ∈ frs outer
      · obtain ⟨sl, e1⟩ := bs.slot b o q hn hb (by simp)
        exact un.free b _ e1 (bs.free b o q hn (by simp)) (by simp)
      · exact un.free b o (bs.keep b o q hn hb (by simp)) (bs.free b o q hn (by simp)) (by simp)
    · obtain ⟨o', e1⟩ := bs.there b o q (by simp)
      obtain ⟨o2, e2⟩ := un.there b o' e1 (by simp)
      by_cases hb : b ∈ frs outer
      · obtain ⟨_, o3, e3, hnf⟩ := hfo.mem hb
        obtain ⟨sl2, e4⟩ := x4 b _ e3 hnf
        exact ⟨_, e4⟩
      · obtain ⟨o3, e3⟩ := tB b o' e1 (hloc b o q hb)
        exact ⟨o3, x1.1 b o3 e3⟩
    · obtain ⟨more, z⟩ := bs.tbls b ps q
      obtain ⟨more2, z2⟩ := un.tbls b _ z
      exact ⟨more ++ more2, by rw [z2, Array.append_assoc]⟩
end
end L2

set_option Elab.async false
set_option linter.all false
set_option maxRecDepth 100000
set_option maxHeartbeats 4000000
namespace L2
open PySem PySem.Spec PyProof.Rows PySem.W PySem.Calls Builtin Builtin.ObjectAttr Builtin.Getset_descriptor

/-! ### an exception object: isinstance -/
section
variable {prog : Program} {w : World} {A : Around} {E : Value → Shared → Prop} {K : Frag} {x C : Addr} {o : Obj} {hh : Heap} {g : Array GenState} {d : Drawn} {t : Nat} {os : OsState}
theorem ex_ty {M : Model} {h : Heap} (hx : h.get? x = some o) (hc : o.cls = .ref C) : Looks M h (typeOf (.ref x)) (.ref C) := by
  rw [← hc]; exact (Looks.ld hx).andThen .now
theorem ex_class_get {tp : Value} {R : Result → Shared → Prop} (X : K.In hh) (hx : hh.get? x = some o) (hc : o.cls = .ref C) (hm : mroIn K C (.type "object") = some true)
    (h : R (.ok (.ret (.ref C))) ⟨hh, g, d, t, os⟩) : codeAny (model prog w) A (.call (.builtin "getset_descriptor.__get__") ⟨[.builtin "object.__class__", .ref x, tp], []⟩) R ⟨hh, g, d, t, os⟩ := by
  have L0 := ex_ty (M := model prog w) hx hc
  have L1 := looks_mroIn (M := model prog w) X hm
  refine codeAny_call_builtin KF.slot_gs.plain KF.entry_gs (KF.slot_gs.check _ _ _ _ _ _ _ _ KF.type_class (KF.args_gs _ _ _) ?_)
  unfold Builtin.«getset_descriptor.__get__» descrGet
  rw [dga_obj]
  refine wpAny_bind (wpAny_pure ?_)
  unfold descrGetter descrCheckInstance descrNameAndClass isInstance
  simp only [KF.owner_class]
  repeat lk
  refine ⟨Code.quiet_builtin _ (by decide +kernel), codeAny_builtin KF.entry_class ?_⟩
  unfold Builtin.«object.__class__» shownTypeOf
  repeat lk
  exact h
theorem ex_entry {tk : Tok} {Q : PySem.Fin → Shared → Prop} (X : K.In hh) (hx : hh.get? x = some o) (hc : o.cls = .ref C) (ha : findIn K (.ref C) "__class__" = some (some (.builtin "object.__class__"))) (hm : mroIn K C (.type "object") = some true)
    (hq : Q (.done (.ret (.ref C))) ⟨hh, g, d, t, os⟩) : wpAny (model prog w) A (Builtin.«object.__getattribute__» ⟨[.ref x, .str "__class__" tk], []⟩) Q E ⟨hh, g, d, t, os⟩ := by
  have L0 := ex_ty (M := model prog w) hx hc
  have L1 := looks_findIn (M := model prog w) X ha
  have hT5 : (⟨hh, g, d, t, os⟩ : Shared).TypeIs (.builtin "object.__class__") "getset_descriptor" := F.typeOf_object_class
  have f5 := F.typeOf_object_class
  have f6 := F.slot_gs_get.lookup
  have f7 := F.slot_gs_set.lookup
  repeat (any_goals (first | assumption | with_reducible refine L0.at ?_ | with_reducible refine L1.at ?_ | (with_reducible refine wpAny_loadPart_at hx ?_; rw [hc]) | wp_step))
  refine ex_class_get X hx hc hm ?_
  repeat (any_goals (first | assumption | wp_step))
theorem ex_call {tk : Tok} {R : Result → Shared → Prop} (X : K.In hh) (hx : hh.get? x = some o) (hc : o.cls = .ref C) (ha : findIn K (.ref C) "__class__" = some (some (.builtin "object.__class__"))) (hm : mroIn K C (.type "object") = some true)
    (hb : mroIn K C (.type "BaseException") = some true) (hq : R (.ok (.ret (.ref C))) ⟨hh, g, d, t, os⟩) :
    codeAny (model prog w) A (.call (.builtin "BaseException.__getattribute__") ⟨[.ref x, .str "__class__" tk], []⟩) R ⟨hh, g, d, t, os⟩ := by
  have L0 := ex_ty (M := model prog w) hx hc
  have L1 := looks_mroIn (M := model prog w) X hb
  have hk : builtinKind "BaseException.__getattribute__" = some .slot := by decide +kernel
  have hsplit : splitId "BaseException.__getattribute__" = some ("BaseException", "__getattribute__") := by decide +kernel
  have L2 : Looks (model prog w) hh (isInstance (.ref x) (.type "BaseException")) true := by
    unfold isInstance
    exact L0.andThen L1
  refine codeAny_call_builtin F.attr_ValueError.ga.plain F.entry_bexc_ga ?_
  have hck := @check_slot (model prog w) A.in1 (fun e s' => R (.error e) s') ⟨hh, g, d, t, os⟩ "BaseException.__getattribute__" "BaseException" "__getattribute__" (.ref x) [.str "__class__" tk] []
  refine hck hk hsplit L2 (F.args_bexc_ga _ _) ?_
  exact ex_entry X hx hc ha hm hq
theorem ex_by {tk : Tok} {Q : Value → Shared → Prop} (X : K.In hh) (hx : hh.get? x = some o) (hc : o.cls = .ref C) (ha : findIn K (.ref C) "__class__" = some (some (.builtin "object.__class__"))) (hm : mroIn K C (.type "object") = some true)
    (hb : mroIn K C (.type "BaseException") = some true) (hga : findIn K (.ref C) "__getattribute__" = some (some (.builtin "BaseException.__getattribute__"))) (hgn : findIn K (.ref C) "__getattr__" = some none)
    (hq : Q (.ref C) ⟨hh, g, d, t, os⟩) : wpAny (model prog w) A (getAttrBy (.ref x) (.str "__class__" tk) false) Q E ⟨hh, g, d, t, os⟩ := by
  have L0 := ex_ty (M := model prog w) hx hc
  have L1 := looks_findIn (M := model prog w) X hga
  have L2 := looks_findIn (M := model prog w) X hgn
  have f3 := F.attr_ValueError.ga.bind (.ref x)
  have hx2 : (Value.builtin "BaseException.__getattribute__" == Value.builtin "object.__getattribute__") = false := by decide +kernel
  have hx1 : (onTheHeap (Value.ref C) && Value.builtin "BaseException.__getattribute__" == Value.builtin "object.__getattribute__") = false := by rw [hx2]; rfl
  repeat (any_goals (first | assumption | with_reducible refine L0.at ?_ | with_reducible refine L1.at ?_ | with_reducible refine L2.at ?_ | wp_step))
  refine ex_call X hx hc ha hm hb ?_
  repeat (any_goals (first | assumption | wp_step))
theorem ex_class {Q : Option Value → Shared → Prop} (X : K.In hh) (hx : hh.get? x = some o) (hc : o.cls = .ref C) (ha : findIn K (.ref C) "__class__" = some (some (.builtin "object.__class__"))) (hm : mroIn K C (.type "object") = some true)
    (hb : mroIn K C (.type "BaseException") = some true) (hga : findIn K (.ref C) "__getattribute__" = some (some (.builtin "BaseException.__getattribute__"))) (hgn : findIn K (.ref C) "__getattr__" = some none)
    (hq : Q (some (.ref C)) ⟨hh, g, d, t + 1, os⟩) : wpAny (model prog w) A (getAttr? (.ref x) "__class__") Q E ⟨hh, g, d, t, os⟩ := by
  unfold getAttr? getAttrBy?
  repeat (any_goals (first | assumption | with_reducible apply ex_by X hx hc ha hm hb hga hgn | wp_step))
end

/-- what of an own error class the text must have: it stands in the text at C, under ValueError -/
structure ErrC (K : Frag) (C : Addr) : Prop where
  ex : excIn K C [.type "ValueError", .type "Exception", .type "BaseException", .type "object"] "ValueError.__new__" = true
  cl : findIn K (.ref C) "__class__" = some (some (.builtin "object.__class__"))
  ob : mroIn K C (.type "object") = some true
  be : mroIn K C (.type "BaseException") = some true
  ga : findIn K (.ref C) "__getattribute__" = some (some (.builtin "BaseException.__getattribute__"))
  gn : findIn K (.ref C) "__getattr__" = some none
  tu : instIn K (.ref C) (.type "tuple") = some false
  kp : keepIn K (.ref C) = true
theorem ErrC.cls {K : Frag} {C : Addr} (c : ErrC K C) : ∃ cd, clsIn K C = some cd := by
  have h := c.ob
  unfold mroIn at h
  cases e : clsIn K C with
  | none => rw [e] at h; cases h
  | some cd => exact ⟨cd, rfl⟩
theorem ErrC.isType {K : Frag} {C : Addr} {M : Model} {h : Heap} (c : ErrC K C) (X : K.In h) : Looks M h (PySem.isType (.ref C)) true := by
  obtain ⟨cd, hcD⟩ := c.cls
  unfold clsIn at hcD
  split at hcD
  · rename_i c' d' cd' sl' ho
    intro A' Q' E' s' k q
    unfold PySem.isType loadHead
    exact wpAny_bind (wpAny_loadPart (k _ _ (X _ _ ho)) (wpAny_pure q))
  · cases hcD
def ExcAt (x C : Addr) (h : Heap) : Prop := ∃ o, h.get? x = some o ∧ o.cls = .ref C
theorem kitx_exc {K : Frag} {x C : Addr} (c : ErrC K C) : KitX K (.ref x) (.ref C) (ExcAt x C) where
  ty := fun _ _ _ ⟨_, hx, hc⟩ => ex_ty hx hc
  it := fun _ _ X _ => c.isType X
  ne := fun h tp dd its n sl X htp => by
    obtain ⟨cd, hcD⟩ := c.cls
    refine Bool.eq_false_iff.mpr fun q => ?_
    have e : C = tp := Value.ref.inj (beq_iff_eq.mp q)
    subst e
    unfold clsIn at hcD
    split at hcD
    · rename_i c' d' cd' sl' ho
      have z := (X _ _ ho).symm.trans htp
      cases z
    · cases hcD
  ca := fun {_ _ _ _ _ s} X ⟨o, hx, hc⟩ k => by
    obtain ⟨hp, g, d, t, os⟩ := s
    exact ex_class X hx hc c.cl c.ob c.be c.ga c.gn k
/-- an exception that was caught, as a tracked thing -/
abbrev HO.exc (x C : Addr) : HO := .ext (ExcAt x C)
/-- isinstance(e, D) -/
theorem isinst_exc {X : Cx} {pins : List (Addr × Obj)} {σ : St} {H : Hp} {s : Shared} {A : Around} {E : Value → Shared → Prop} {Q : Value → Shared → Prop} {x C : Addr} {D : Value} {b : Bool} (I : Inv X pins σ H s) (ha : H x = some (.exc x C)) (c : ErrC X.K C)
    (e : kitOne X.K (.ref C) D = some b) (h : ∀ tk, Q (.bool b) { s with toks := tk }) : wpAny (model X.prog X.w) A (call (.builtin "isinstance") [.ref x, D]) Q E s :=
  kia_one (kitx_exc c) I.kIn (I.hok x _ ha).1 e (fun z => nomatch z) h

/-- the clause's class against the exception's -/
theorem excMatches_own {M : Model} {A : Around} {E : Value → Shared → Prop} {s : Shared} {K : Frag} {x C D : Addr} {b : Bool} {Q : Bool → Shared → Prop} (X : K.In s.heap) (hx : ExcAt x C s.heap) (c : ErrC K D) (hm : mroIn K C (.ref D) = some b)
    (h : Q b s) : wpAny M A (excMatches (.ref x) (.ref D)) Q E s := by
  obtain ⟨o, hx, hc⟩ := hx
  obtain ⟨hp, g, d, t, os⟩ := s
  have L0 := ex_ty (M := M) hx hc
  have L1 := looks_instIn (M := M) X c.tu
  have L2 := c.isType (M := M) X
  have L3 := looks_mroIn (M := M) X c.be
  have L4 := looks_mroIn (M := M) X hm
  unfold excMatches isExcClass
  repeat (first | with_reducible refine L1.at ?_ | with_reducible refine L2.at ?_ | with_reducible refine L3.at ?_ | with_reducible refine L4.at ?_ | with_reducible refine L0.at ?_ | wp_step)
  cases b <;> (repeat (first | assumption | wp_step))
end L2

set_option Elab.async false
set_option linter.all false
set_option maxRecDepth 100000
set_option maxHeartbeats 4000000
namespace L2
open PySem PySem.Spec PyProof.Rows PySem.W PySem.Calls

/-! ### raise C(..) -/
theorem own_obj {K : Frag} {h : Heap} {C : Addr} {bmB : List Value} {newId : String} (X : K.In h) (q : excIn K C bmB newId = true) :
    ∃ bm N nm qn bs hdct sn sub ab col dd k0 k1 k2 k3 k5 mN, h.get? C = some (excClassObj nm qn C N bs bm hdct sn sub ab col dd k0 k1 k2 k3 k5 newId) ∧ h.Ns N mN ∧ mN "__init__" = none ∧ OwnTail h bmB bm := by
  unfold excIn at q
  split at q
  · rename_i dd cd sl ho
    split at q
    · rename_i C' bm k0 k1 k2 k3 n k5 hm hs
      simp only [Bool.and_eq_true, beq_iff_eq, Bool.not_eq_true'] at q
      obtain ⟨⟨⟨⟨⟨rfl, rfl⟩, hdel⟩, ht⟩, hok⟩, hni⟩ := q
      obtain ⟨nm, bs, mro, ns, qn, hd, sn, sub, ab, col, del⟩ := cd
      dsimp only at hm hdel hok hni
      subst hm hdel
      have hsl : sl = #[k0, k1, k2, k3, some (.builtin n), k5] := by
        obtain ⟨l⟩ := sl
        simp only at hs
        rw [hs]
      subst hsl
      exact ⟨bm, ns, nm, qn, bs, hd, sn, sub, ab, col, dd, k0, k1, k2, k3, k5, _, X _ _ ho, .of_isNs (isNs_of_in X hok), nsMap_none_of_in X hok hni, tail_of_in X ht⟩
    · cases q
  · cases q
section
variable {X : Cx} {x : Str} {np cpos pos : Pos} {e : Expr} {es : List Expr} {t : TA} {C : Addr} {E : St → XK}
def tRaise (C : Addr) (E : St → XK) (t : TA) : TS := fun _ σ H => t σ H fun vs H1 => vs.length ≤ sizeLine ∧ E σ (.ref C) none H1
theorem ps_raise (hX : XOk X E) (hc : X.calm = true) (hg : Gl X x) (hm : X.mg x = some (.ref C)) (c : ErrC X.K C) (ha : PA X (e :: es) t) (hdb : (x == ("__debug__" : Str)) = false := by decide)
    (he : starEach (e :: es) X.env = (false, eval e X.env) :: starEach es X.env := by rfl) (hpl : (backTo cpos (starEach es X.env)).any (·.1) = false := by rfl) :
    PS X (.Raise (some (.Call (.Name x np) (e :: es) [] cpos)) none pos) (tRaise C E t) := by
  intro pins s σ H D I h
  obtain ⟨bm, N, nm, qn, bs, hdct, sn, sub, ab, col, dd, k0, k1, k2, k3, k5, mN, hC, hN, hni, T⟩ := own_obj I.ok.mod.kin c.ex
  refine wpAny_Raise_call_subT (C := C) (nm := nm) (q := qn) (N := N) (bs := bs) (bm := bm) (hdct := hdct) (sn := sn) (sub := sub) (ab := ab) (col := col) (dd := dd) (k0 := k0) (k1 := k1) (k2 := k2) (k3 := k3) (k5 := k5)
    F.excBase_ValueError (mN := mN) (T.hasType F.excBase_ValueError.hasBase) (I.ok.hd hc) (by rw [he]; show (false || (backTo cpos (starEach es X.env)).any (·.1)) = false; rw [hpl]; rfl) hni (ld_glob I hg hm ⟨rfl, ?_⟩ hdb)
  have hq := thn (ha cpos pins s σ H _ I h) fun us s2 ⟨vs, H2, I2, r2, q2⟩ => show us.length ≤ sizeLine ∧ (∀ b o, X.base.get? b = some o → s2.heap.get? b = some o) ∧ ∀ h' e, Heap.MadeExcOf s2.heap h' e (.ref C) us → X.xe (.ref e) { s2 with heap := h' } from
    ⟨by rw [← r2.length]; exact q2.1, I2.bk, fun h' e hx => hX.raise pins σ H2 s2 h' e (.ref C) us I2 hx q2.2⟩
  rw [he] at hq ⊢
  exact evalArgs_plain (wpAny_mono hq (fun vs s2 h2 => ⟨rfl, h2.1, h2.2.1 _ _ hC, hN.keeps h2.2.1, T.keeps h2.2.1, h2.2.2⟩) fun _ _ y => y)
end

/-! ### f-strings -/
section
variable {X : Cx} {e v1 v2 : Expr} {es : List Expr} {te : TE} {pos : Pos}
/-- a part {e} of a text or a whole number -/
def tFmt (te : TE) : TE := fun σ H Q => te σ H fun x H1 => (∃ y, x = .str y ∧ y.length ≤ sizeLine ∧ Q (.str y) H1) ∨ ∃ i : Int, x = .int i ∧ i.natAbs.log2 < 1920 ∧ Q (.str (toString i)) H1
theorem pe_fmt (h : PE X e te) : PE X (.FormattedValue e (-1) none pos) (tFmt te) := by
  intro pins s σ H Q I hq
  refine FormattedValue_plain (thn (h pins s σ H _ I hq) fun u s1 ⟨x, H1, I1, r1, q1⟩ => ?_)
  rcases q1 with ⟨y, rfl, hy, q⟩ | ⟨i, rfl, hi, q⟩
  · obtain ⟨t, rfl⟩ := r1
    exact formatField_str (fun t' tk => ⟨.str y, H1, I1.tok _, ⟨_, rfl⟩, q⟩) hy
  · obtain ⟨t, rfl⟩ := r1
    exact formatField_int_small hi ⟨.str (toString i), H1, I1.tok _, ⟨_, rfl⟩, q⟩
abbrev TJ := Str → TE
def PJ (X : Cx) (es : List Expr) (t : TJ) : Prop :=
  ∀ (acc : Str) (pins : List (Addr × Obj)) (s : Shared) (σ : St) (H : Hp) (Q : VK), Inv X pins σ H s → t acc σ H Q → wpAny (model X.prog X.w) X.A (joinParts acc (evalEach es X.env)) (EP X pins σ Q) X.xe s
def tJnil : TJ := fun acc _ H Q => acc.length ≤ sizeLine ∧ Q (.str acc) H
def tJcons (te : TE) (t : TJ) : TJ := fun acc σ H Q => te σ H fun x H1 => ∃ y, x = .str y ∧ (acc ++ y).length ≤ sizeLine ∧ t (acc ++ y) σ H1 Q
theorem pj_nil : PJ X [] tJnil := fun acc _ s σ H Q I h => joinParts_nil ⟨.str acc, H, I.tok _, ⟨_, rfl⟩, h.2⟩ h.1
theorem pj_cons {t : TJ} (h1 : PE X e te) (h2 : PJ X es t) : PJ X (e :: es) (tJcons te t) := by
  intro acc pins s σ H Q I h
  refine joinParts_cons (thn (h1 pins s σ H _ I h) fun u s1 ⟨x, H1, I1, r1, y, e, hl, q⟩ => ?_)
  subst e
  obtain ⟨tk, rfl⟩ := r1
  exact ⟨hl, h2 _ pins s1 σ H1 Q I1 q⟩
theorem pe_joined {t : TJ} (h : PJ X (v1 :: v2 :: es) t) : PE X (.JoinedStr (v1 :: v2 :: es) pos) (t Str.empty) := fun pins s σ H Q I hq => JoinedStr_many (h Str.empty pins s σ H Q I hq)
end

/-! ### try .. except C as e -/
/-- within an except suite -/
abbrev Cx.suite (X : Cx) (e : Addr) : Cx := { X with A := X.A.mark (some (.ref e)), calm := false, xe := fun _ _ => False }
theorem Room.mark {cm : Bool} {k : Nat} {A : Around} (r : Room cm k A) (v : Option Value) : Room false k (A.mark v) := ⟨(fun z => nomatch z), r.dp, r.un⟩
theorem Cx.Ok.suite {X : Cx} (ok : X.Ok) (e : Addr) : (X.suite e).Ok :=
  ⟨ok.mod, ok.kind, ok.glob, ok.blt, ok.above, ok.inj, ok.has, ok.cab, (fun z => nomatch z), ok.frames, ok.stk, ok.exf, ok.bs, ok.bsz, ok.noex, ok.exfs, ok.funs, ok.frf⟩
theorem Inv.suite {X : Cx} {pins : List (Addr × Obj)} {σ : St} {H : Hp} {s : Shared} (I : Inv X pins σ H s) (e : Addr) : Inv (X.suite e) pins σ H s := ⟨I.ok.suite e, I.os, I.bare, I.base, I.loc, I.cell, I.free, I.freeC, I.pin, I.hok, I.len⟩
theorem Inv.unsuite {X : Cx} {pins : List (Addr × Obj)} {σ : St} {H : Hp} {s : Shared} {e : Addr} (ok : X.Ok) (I : Inv (X.suite e) pins σ H s) : Inv X pins σ H s := ⟨ok, I.os, I.bare, I.base, I.loc, I.cell, I.free, I.freeC, I.pin, I.hok, I.len⟩

/-- an exception of class C has come to this frame -/
def Fly (X : Cx) (pins : List (Addr × Obj)) (σ : St) (H : Hp) (s : Shared) (ea C : Addr) (B : Heap) (a0 : Value) : Prop :=
  ∃ Hp sp, Inv X pins σ Hp sp ∧ s.os = sp.os ∧ AllBare s.gens ∧ Un (frs X.stack) [] Hp H sp.heap s.heap ∧ HOk X.prog X.w H B ∧ (∀ b o, sp.heap.get? b = some o → Hp b = none → b ∉ frs X.stack → B.get? b = some o) ∧
    (∀ b o, sp.heap.get? b = some o → b ∉ frs X.stack → ∃ o', B.get? b = some o') ∧ B.StaysIn s.heap ∧ B.get? ea = none ∧ s.heap.FunFrames B X.stack ∧ ExcAt ea C s.heap ∧ (∃ ob vs, s.heap.get? ea = some ob ∧ ob.data = .fields vs)
section
variable {X : Cx} {pins : List (Addr × Obj)} {σ : St} {H : Hp} {s : Shared} {ea C : Addr} {B : Heap} {a0 : Value}
theorem Fly.inv (f : Fly X pins σ H s ea C B a0) : Inv X pins σ H s := by
  obtain ⟨Hp, sp, I, os, bare, un, hB, kB, tB, st, en, ff, ex⟩ := f
  exact I.call' (ch := []) os un (hB.kept st) bare fun b z => absurd z (by simp)
/-- its records turn -/
theorem Fly.turn {h2 : Heap} {a1 : Value} (f : Fly X pins σ H s ea C B a0) (fl : Heap.FlyingW B X.stack ea (.ref C) a1 h2) (up : s.heap.UpToSlots h2) : Fly X pins σ H { s with heap := h2 } ea C B a1 := by
  obtain ⟨Hp, sp, I, os, bare, un, hB, kB, tB, st, en, ff, ex⟩ := f
  obtain ⟨ob, e1, e2⟩ := fl.there
  obtain ⟨oe, vs, e3, _, e4, _⟩ := fl.first
  refine ⟨Hp, sp, I, os, bare, ⟨fun b o q hn hb _ => fl.1 b o (kB b o q hn hb), fun b o q hn hb _ => ?_, un.free, fun b o q _ => ?_, un.tups, un.frzs, un.tbls⟩, hB, kB, tB, fl.1, en, fl.2.2.1, ⟨ob, e1, e2⟩, oe, vs, e3, e4⟩
  · obtain ⟨sl, q1⟩ := un.slot b o q hn hb (by simp)
    obtain ⟨_, o2, q2, hnf⟩ := ff.mem hb
    rw [q1] at q2
    cases q2
    obtain ⟨sl2, q3⟩ := up b _ q1 hnf
    exact ⟨sl2, q3⟩
  · by_cases hb : b ∈ frs X.stack
    · obtain ⟨_, o2, q2, hnf⟩ := ff.mem hb
      obtain ⟨sl2, q3⟩ := up b _ q2 hnf
      exact ⟨_, q3⟩
    · obtain ⟨o3, q3⟩ := tB b o q hb
      exact ⟨o3, fl.1 b o3 q3⟩
/-- the exception is no object that was there -/
theorem Fly.fresh (f : Fly X pins σ H s ea C B a0) : H ea = none ∧ (∀ o, X.s₀.heap.get? ea = some o → ea ∈ X.ex) ∧ ea ≠ X.env.locals ∧ (∀ x c, X.env.cells.lookup x = some c → c ≠ ea) ∧ (∀ p ∈ X.pn ++ pins, p.1 ≠ ea) := by
  have I0 := f.inv
  obtain ⟨Hp, sp, I, os, bare, un, hB, kB, tB, st, en, ff, ex, ob, vs, eo, ed⟩ := f
  have nf : ea ∉ frs X.stack := fun hm => by
    obtain ⟨_, o2, q2, hnf⟩ := ff.mem hm
    rw [eo] at q2
    cases q2
    exact hnf vs ed
  have np : ∀ o, sp.heap.get? ea ≠ some o := fun o q => by
    obtain ⟨o3, q3⟩ := tB ea o q nf
    rw [en] at q3; cases q3
  refine ⟨?_, ?_, fun z => ?_, fun x c e z => ?_, fun p hp z => ?_⟩
  · cases q : H ea with
    | none => rfl
    | some u =>
      obtain ⟨o, z⟩ := tracked_in (hB ea u q)
      rw [en] at z; cases z
  · intro o q
    by_cases hx : ea ∈ X.ex
    · exact hx
    · obtain ⟨o', z⟩ := I.base.there ea o q hx
      exact absurd z (np o')
  · obtain ⟨m, ⟨oL, _, _, hoL, _⟩, _⟩ := I.loc
    exact np oL (z ▸ hoL)
  · obtain ⟨v, o, ho, _⟩ := I.cell x c e
    exact np o (z ▸ ho)
  · exact np p.2 (z ▸ (I.pin p hp).1)

/-- .. and is tracked from here on -/
theorem Inv.track {o : HO} (I : Inv X pins σ H s) (hn : H ea = none) (h0 : ∀ o, X.s₀.heap.get? ea = some o → ea ∈ X.ex) (hl : ea ≠ X.env.locals) (hc : ∀ x c, X.env.cells.lookup x = some c → c ≠ ea) (hp : ∀ p ∈ X.pn ++ pins, p.1 ≠ ea)
    (new : ObjOk X.prog X.w (upd H ea o) s.heap ea o) : Inv X pins σ (upd H ea o) s := by
  have ne : ∀ b u, H b = some u → b ≠ ea := fun b u e z => by rw [z, hn] at e; cases e
  refine ⟨I.ok, I.os, I.bare, ⟨I.base.keep, I.base.slot, fun b ob q n hx => ?_, I.base.there, fun b xs q => ?_, fun b ob u q => ?_, fun b ps q => ?_⟩, I.loc, I.cell, ?_, fun x c e => ?_, fun p hp' => ?_, fun b u e => ?_, I.len⟩
  · rw [upd_ne (fun z => hx (by rw [z] at q ⊢; exact h0 ob q))]
    exact I.base.free b ob q n hx
  · have q1 := I.base.tups b xs q
    rw [upd_ne (ne _ _ q1)]; exact q1
  · have q1 := I.base.frzs b ob u q
    rw [upd_ne (ne _ _ q1)]; exact q1
  · obtain ⟨more, q1⟩ := I.base.tbls b ps q
    exact ⟨more, by rw [upd_ne (ne _ _ q1)]; exact q1⟩
  · rw [upd_ne (Ne.symm hl)]; exact I.free
  · rw [upd_ne (hc x c e)]; exact I.freeC x c e
  · obtain ⟨e, n, r⟩ := I.pin p hp'
    exact ⟨e, by rw [upd_ne (hp p hp')]; exact n, r⟩
  · by_cases hb : b = ea
    · subst hb
      rw [upd_same] at e
      cases e
      exact new
    · rw [upd_ne hb] at e
      refine (I.hok b u e).stay (fun _ _ _ q => q) (fun c q => ?_) fun c xs q => ?_
      · rw [upd_ne (ne _ _ q)]; exact q
      · rw [upd_ne (ne _ _ q)]; exact q
theorem Fly.tracked (f : Fly X pins σ H s ea C B a0) : Inv X pins σ (upd H ea (.exc ea C)) s := by
  obtain ⟨h1, h2, h3, h4, h5⟩ := f.fresh
  have I := f.inv
  obtain ⟨Hp, sp, _, os, bare, un, hB, kB, tB, st, en, ff, ⟨o, e1, e2⟩, _⟩ := f
  exact I.track h1 h2 h3 h4 h5 ⟨⟨o, e1, e2⟩, ⟨o, e1⟩, fun a b ⟨o', q1, q2⟩ k => ⟨o', k o' q1, q2⟩⟩
/-- the name goes behind the suite -/
theorem name_goes_ok {M : Model} {A : Around} {E : Value → Shared → Prop} {i : Nat} {n : Str} {pos : Pos} {Q : Unit → Shared → Prop} (I : Inv X pins σ H s) (hN : X.N.Nodup) (hi : X.N[i]? = some n) (hk : X.env.scope.names.lookup n = some .local)
    (h : ∀ s', Inv X pins (σ.set i none) H s' → Q () s') : wpAny M A (do bindName X.env n .none; unbindBehindTheSuite X.env n pos) Q E s := by
  obtain ⟨m, hn, hl⟩ := id I.loc
  have hcls : (X.env.scope.kind == .class || (X.env.scope.kind == .module && X.env.locals != X.env.globals)) = false := by rw [I.ok.kind]; rfl
  have hiσ : i < σ.length := by rw [I.len]; exact (List.getElem?_eq_some_iff.mp hi).1
  have cne := I.cne
  refine wpAny_nameGoes_keeps hk hn hcls fun h' v hn' hs => ?_
  obtain ⟨oL, _, _, hoL, _⟩ := id hn
  refine h _ ⟨I.ok, I.os, I.bare, ⟨fun b o e n hb hx => ?_, fun b o e n hb hx => ?_, I.base.free, fun b o e hx => ?_, I.base.tups, I.base.frzs, I.base.tbls⟩, ⟨_, hn', fun j y v' e1 e2 e3 => ?_⟩, fun y c e => ?_, I.free, I.freeC, fun p hp => ?_, fun b ob e => ?_, by simpa using I.len⟩
  · exact (hs.2 b (Nat.ne_of_lt (Nat.lt_of_lt_of_le (Heap.lt_size e) I.ok.above))).trans (I.base.keep b o e n hb hx)
  · obtain ⟨sl, e1⟩ := I.base.slot b o e n hb hx
    exact ⟨sl, (hs.2 b (Nat.ne_of_lt (Nat.lt_of_lt_of_le (Heap.lt_size e) I.ok.above))).trans e1⟩
  · obtain ⟨o', e1⟩ := I.base.there b o e hx
    exact ⟨o', (hs.2 b (Nat.ne_of_lt (Nat.lt_of_lt_of_le (Heap.lt_size e) I.ok.above))).trans e1⟩
  · by_cases hj : j = i
    · subst hj
      rw [List.getElem?_set_self hiσ] at e2
      cases e2
    · rw [List.getElem?_set_ne (Ne.symm hj)] at e2
      obtain ⟨u', r', q⟩ := hl j y v' e1 e2 e3
      refine ⟨u', r', ?_⟩
      rcases q with ⟨k, e⟩ | ⟨k, c, e, z⟩
      · refine .inl ⟨k, ?_⟩
        have : y ≠ n := fun e => hj (nodup_ix hN e1 (e ▸ hi))
        simp [this, e]
      · exact .inr ⟨k, c, e, z.sameBut hs (cne y c e)⟩
  · obtain ⟨w', z⟩ := I.cell y c e
    exact ⟨w', z.sameBut hs (cne y c e)⟩
  · obtain ⟨e, n, ne, nf, d⟩ := I.pin p hp
    exact ⟨(hs.2 p.1 ne).trans e, n, ne, nf, d⟩
  · refine (I.hok b ob e).stay (fun c w' hc q => (hs.2 c ?_).trans q) (fun _ q => q) fun _ _ q => q
    rintro rfl
    rcases hc with rfl | hc
    · rw [I.free] at e; cases e
    · rw [I.free] at hc; cases hc
end

/-! ### the clauses -/
/-- what the clauses do with an exception of class C -/
abbrev TH := Addr → TS
def PH (X : Cx) (hs : List ExceptHandler) (t : TH) : Prop :=
  ∀ (pins : List (Addr × Obj)) (s : Shared) (σ : St) (H : Hp) (D : Ends) (ea C : Addr) (B : Heap) (a0 : Value), Fly X pins σ H s ea C B a0 → Heap.FlyingW B X.stack ea (.ref C) a0 s.heap → t C D σ H →
    wpAny (model X.prog X.w) X.A (handleBy (.ref ea) X.env hs) (SP X pins D) X.xe s
def Ends.drop (D : Ends) (i : Nat) : Ends := { nx := fun σ H => D.nx (σ.set i none) H, rt := D.rt, bk := fun σ H => D.bk (σ.set i none) H, ct := fun σ H => D.ct (σ.set i none) H }
def hAs (K : Frag) (Dc : Addr) (i : Nat) (ts : TS) (tr : TH) : TH := fun C D σ H => ∃ b, mroIn K C (.ref Dc) = some b ∧
  if b = true then ∀ ea, H ea = none → ts (D.drop i) (σ.set i (some (.ref ea))) (upd H ea (.exc ea C)) else tr C D σ H
def hNever : TH := fun _ _ _ _ => False
section
variable {X : Cx} {x n : Str} {np pos : Pos} {b0 : Stmt} {suite : List Stmt} {rest : List ExceptHandler} {ts : TS} {tr : TH} {Dc : Addr} {i : Nat}
theorem ph_never {hs : List ExceptHandler} : PH X hs hNever := fun _ _ _ _ _ _ _ _ _ _ _ h => h.elim
theorem ph_as (hg : Gl X x) (hm : X.mg x = some (.ref Dc)) (c : ErrC X.K Dc) (hN : X.N.Nodup) (hi : X.N[i]? = some n) (hk : X.env.scope.names.lookup n = some .local) (hs : ∀ ea, PSs (X.suite ea) (b0 :: suite) ts) (hr : PH X rest tr)
    (hdb : (x == ("__debug__" : Str)) = false := by decide) : PH X (.ExceptHandler (some (.Name x np)) (some n) (b0 :: suite) pos :: rest) (hAs X.K Dc i ts tr) := by
  intro pins s σ H D ea C B a0 f fl h
  obtain ⟨b, hb, h⟩ := h
  have I := f.inv
  have ex : ExcAt ea C s.heap := by obtain ⟨_, _, _, _, _, _, _, _, _, _, _, _, ex, _⟩ := f; exact ex
  refine wpAny_handleBy_cons (codeAny_handlers_test (ld_glob (I.suite ea) hg hm (excMatches_own I.kIn ex c hb ?_) hdb)) (by intro q; cases q)
  cases b with
  | false => exact hr pins s σ H D ea C B a0 f fl h
  | true =>
    refine codeAny_handlers_suite_as ?_
    refine lands_againW fl fun h6 fl6 up6 => ?_
    have f6 := f.turn fl6 up6
    have I6 := f6.tracked
    have hn6 := f6.fresh.1
    refine store_ok (v := .ref ea) I6 hN hi (.inl hk) rfl (fun s7 I7 => ?_) (.inr hk)
    refine wpAny_mono (hs ea pins s7 _ _ (D.drop i) (I7.suite ea) (h ea hn6)) (fun fl s8 q => ?_) fun _ _ z => False.elim z
    cases fl with
    | next =>
      obtain ⟨σ', H', I8, q⟩ := q
      exact name_goes_ok (I8.unsuite I.ok) hN hi hk fun s9 I9 => ⟨_, H', I9, q⟩
    | brk =>
      obtain ⟨σ', H', I8, q⟩ := q
      exact name_goes_ok (I8.unsuite I.ok) hN hi hk fun s9 I9 => ⟨_, H', I9, q⟩
    | cont =>
      obtain ⟨σ', H', I8, q⟩ := q
      exact name_goes_ok (I8.unsuite I.ok) hN hi hk fun s9 I9 => ⟨_, H', I9, q⟩
    | ret u =>
      obtain ⟨v, σ', H', I8, r, q⟩ := q
      exact name_goes_ok (I8.unsuite I.ok) hN hi hk fun s9 I9 => ⟨v, _, H', I9, r, q⟩
/-- within a try's body -/
abbrev Cx.tried (X : Cx) (pn : List (Addr × Obj)) (xe : Value → Shared → Prop) : Cx := { X with pn := pn, xe := xe }
theorem Cx.Ok.tried {X : Cx} (ok : X.Ok) (pn : List (Addr × Obj)) (xe : Value → Shared → Prop) : (X.tried pn xe).Ok :=
  ⟨ok.mod, ok.kind, ok.glob, ok.blt, ok.above, ok.inj, ok.has, ok.cab, ok.hd, ok.frames, ok.stk, ok.exf, ok.bs, ok.bsz, ok.noex, ok.exfs, ok.funs, ok.frf⟩
theorem Inv.tried {pins : List (Addr × Obj)} {σ : St} {H : Hp} {s : Shared} (I : Inv X pins σ H s) (xe : Value → Shared → Prop) : Inv (X.tried (X.pn ++ pins) xe) [] σ H s :=
  ⟨I.ok.tried _ xe, I.os, I.bare, I.base, I.loc, I.cell, I.free, I.freeC, fun p hp => I.pin p (by simpa using hp), I.hok, I.len⟩
theorem Inv.untried {pins pins' : List (Addr × Obj)} {σ : St} {H : Hp} {s : Shared} {xe : Value → Shared → Prop} (ok : X.Ok) (I : Inv (X.tried (X.pn ++ pins) xe) pins' σ H s) : Inv X pins σ H s :=
  ⟨ok, I.os, I.bare, I.base, I.loc, I.cell, I.free, I.freeC, fun p hp => I.pin p (List.mem_append_left _ hp), I.hok, I.len⟩
/-- try: body, its clauses -/
def tTry (tb : (St → XK) → TS) (th : TH) : TS := fun D σ H => ∃ E : St → XK, tb E D σ H ∧ ∀ σ' cls od H', E σ' cls od H' → ∃ C, cls = .ref C ∧ th C D σ' H'
theorem ps_try {body : List Stmt} {h0 : ExceptHandler} {tb : (St → XK) → TS} {th : TH} (hfr : X.stack = X.env :: X.outer) (hf : X.env.frame = some X.env.locals)
    (hb : ∀ (E : St → XK) (pn : List (Addr × Obj)) (xe : Value → Shared → Prop), Passes (CXF X.prog X.w) (X.tried pn xe) E → PassesOwn (model X.prog X.w) X.A X.env xe → PSs (X.tried pn xe) body (tb E)) (hh : PH X (h0 :: rest) th) : PS X (.Try body (h0 :: rest) [] [] pos) (tTry tb th) := by
  intro pins s σ H D I h
  obtain ⟨E, h1, h2⟩ := h
  refine wpAny_Try_except ?_
  have key : ∀ (σ' : St) (H' : Hp) (s' : Shared) (e : Value) (s2 : Shared), Inv X pins σ' H' s' → CXF X.prog X.w X.stack H' s' (E σ') e s2 → wpAny (model X.prog X.w) X.A (noteFrame e X.env) (fun _ s3 => wpAny (model X.prog X.w) X.A (setFlight e none) (fun _ s4 => wpAny (model X.prog X.w) X.A (handleBy e X.env (h0 :: rest)) (SP X pins D) X.xe s4) X.xe s3) X.xe s2 := by
    rintro σ' H' s' e s2 I' ⟨ea, cls, a0, B, H2, rfl, os, bare, fl, un, hB, kB, tB, hE⟩
    obtain ⟨C, rfl, ht⟩ := h2 _ _ _ _ hE
    obtain ⟨ob, q1, q2⟩ := fl.there
    obtain ⟨oe, vs, q3, _, q4, _⟩ := fl.first
    have f : Fly X pins σ' H2 s2 ea C B a0 := ⟨H', s', I', os, bare, un, hB, kB, tB, fl.1, fl.2.1, fl.2.2.1, ⟨ob, q1, q2⟩, oe, vs, q3, q4⟩
    have hfr' : X.A.frames = some (X.env :: X.outer) := by rw [I'.ok.frames, hfr]
    rw [hfr] at fl
    refine wpAny_looks_onW hfr' hf fl fun h4 held4 up4 => ?_
    refine wpAny_landsW held4 fun h5 fl5 up5 => ?_
    rw [← hfr] at fl5
    exact hh pins _ σ' H2 D ea C B a0 (f.turn fl5 (up4.trans up5)) fl5 ht
  have ok := I.ok
  refine wpAny_mono (hb E (X.pn ++ pins) _ (fun pins' σ' H' s' e s2 I' hx => key σ' H' s' e s2 (I'.untried ok) hx) PassesOwn.looking [] s σ H D (I.tried _) h1) (fun f s2 q => ?_) fun e s2 q => q
  cases f with
  | next => obtain ⟨σ', H', I8, q⟩ := q; exact wpAny_execs_nil ⟨σ', H', I8.untried ok, q⟩
  | brk => obtain ⟨σ', H', I8, q⟩ := q; exact ⟨σ', H', I8.untried ok, q⟩
  | cont => obtain ⟨σ', H', I8, q⟩ := q; exact ⟨σ', H', I8.untried ok, q⟩
  | ret u => obtain ⟨v, σ', H', I8, r, q⟩ := q; exact ⟨v, σ', H', I8.untried ok, r, q⟩
end
end L2

set_option Elab.async false
set_option linter.all false
set_option maxRecDepth 100000
set_option maxHeartbeats 4000000
namespace L2
open PySem PySem.Spec PyProof.Rows PySem.W PySem.Calls

/-! ### list comprehensions -/
/-- the cells that a block takes over -/
def capsOf (env : Env) : List (Str × NameKind) → List (Str × Addr) → List (Str × Addr)
  | [], acc => acc
  | (n, k) :: r, acc => if k = .free then capsOf env r ((n, (env.cells.lookup n).getD 0) :: acc) else capsOf env r acc
theorem closure_caps {env : Env} {scope : Scope} (h : ∀ x ∈ scope.names, x.2 = .free → ∃ c, env.cells.lookup x.1 = some c) : closureFor scope env = pure (capsOf env scope.names []) := by
  unfold closureFor
  suffices H : ∀ (l : List (Str × NameKind)) (acc : List (Str × Addr)), (∀ x ∈ l, x.2 = .free → ∃ c, env.cells.lookup x.1 = some c) →
      (forIn l acc fun (x : Str × NameKind) (cs : List (Str × Addr)) => if (x.2 == NameKind.free) = true then do let c ← cellOf env x.1; pure (ForInStep.yield ((x.1, c) :: cs)) else pure (ForInStep.yield cs) : Sem (List (Str × Addr))) = pure (capsOf env l acc) by
    have := H scope.names [] h
    simpa using this
  intro l
  induction l with
  | nil => intro acc _; rfl
  | cons x r ih =>
    intro acc hl
    obtain ⟨n, k⟩ := x
    rw [List.forIn_cons]
    by_cases hk : k = .free
    · subst hk
      obtain ⟨c, hc⟩ := hl (n, .free) List.mem_cons_self rfl
      have hc' : env.cells.lookup n = some c := hc
      simp only [beq_self_eq_true, if_true, cellOf, hc', capsOf, Option.getD_some]
      show (pure _ >>= _) = _
      rw [pure_bind]
      exact ih _ fun y hy => hl y (List.mem_cons_of_mem _ hy)
    · have hb : (k == NameKind.free) = false := by simpa using hk
      simp only [hb, Bool.false_eq_true, if_false, capsOf, hk]
      rw [pure_bind]
      exact ih _ fun y hy => hl y (List.mem_cons_of_mem _ hy)
theorem caps_from {env : Env} {x : Str} {c : Addr} : ∀ {l : List (Str × NameKind)} {acc : List (Str × Addr)}, (∀ y ∈ l, y.2 = .free → ∃ c, env.cells.lookup y.1 = some c) →
    (∀ y d, acc.lookup y = some d → env.cells.lookup y = some d) → (capsOf env l acc).lookup x = some c → env.cells.lookup x = some c
  | [], acc, _, ha, h => ha x c h
  | (n, k) :: r, acc, hl, ha, h => by
    unfold capsOf at h
    have hr : ∀ y ∈ r, y.2 = .free → ∃ c, env.cells.lookup y.1 = some c := fun y hy => hl y (List.mem_cons_of_mem _ hy)
    split at h
    · rename_i hk
      obtain ⟨d, hd⟩ := hl (n, k) List.mem_cons_self hk
      refine caps_from hr (fun y e he => ?_) h
      rw [List.lookup_cons] at he
      split at he
      · rename_i q
        have q' : y = n := by simpa using q
        subst q'
        have hd' : env.cells.lookup y = some d := hd
        rw [hd', Option.getD_some] at he
        cases he
        exact hd'
      · exact ha y e he
    · exact caps_from hr ha h
theorem caps_has {env : Env} {x : Str} : ∀ {l : List (Str × NameKind)} {acc : List (Str × Addr)}, ((x, NameKind.free) ∈ l ∨ ∃ c, acc.lookup x = some c) → ∃ c, (capsOf env l acc).lookup x = some c
  | [], acc, h => by
    rcases h with h | h
    · simp at h
    · exact h
  | (n, k) :: r, acc, h => by
    unfold capsOf
    split
    · rename_i hk
      refine caps_has ?_
      rcases h with h | ⟨c, h⟩
      · rcases List.mem_cons.mp h with e | e
        · injection e with e1 e2
          subst e1
          exact .inr ⟨(env.cells.lookup x).getD 0, by simp [List.lookup_cons]⟩
        · exact .inl e
      · by_cases q : x = n
        · subst q
          exact .inr ⟨(env.cells.lookup x).getD 0, by simp [List.lookup_cons]⟩
        · refine .inr ⟨c, ?_⟩
          rw [List.lookup_cons]
          have : (x == n) = false := by simpa using q
          rw [this]
          exact h
    · rename_i hk
      refine caps_has ?_
      rcases h with h | h
      · rcases List.mem_cons.mp h with e | e
        · injection e with e1 e2
          exact absurd e2.symm hk
        · exact .inl e
      · exact .inr h
theorem relabel_free {env : Env} {x : Str} : ∀ {names : List (Str × NameKind)}, names.lookup x = some .free →
    (names.map fun (n, k) => if (k == NameKind.free && env.scope.kind == .function && env.kindOf n == some .cell) then (n, NameKind.cell) else (n, k)).lookup x = some .cell ∨
    (names.map fun (n, k) => if (k == NameKind.free && env.scope.kind == .function && env.kindOf n == some .cell) then (n, NameKind.cell) else (n, k)).lookup x = some .free
  | [], h => by simp at h
  | (n, k) :: r, h => by
    have ih := @relabel_free env x r
    show List.lookup x ((if (k == NameKind.free && env.scope.kind == .function && env.kindOf n == some .cell) = true then (n, NameKind.cell) else (n, k)) :: _) = _ ∨ List.lookup x ((if (k == NameKind.free && env.scope.kind == .function && env.kindOf n == some .cell) = true then (n, NameKind.cell) else (n, k)) :: _) = _
    rw [List.lookup_cons] at h
    by_cases hc : (k == NameKind.free && env.scope.kind == .function && env.kindOf n == some .cell) = true
    · rw [if_pos hc, List.lookup_cons]
      cases hx : x == n with
      | true => exact .inl rfl
      | false => rw [hx] at h; exact ih h
    · rw [if_neg hc, List.lookup_cons]
      cases hx : x == n with
      | true => rw [hx] at h; exact .inr h
      | false => rw [hx] at h; exact ih h
theorem relabel_only {env : Env} {x : Str} : ∀ {names : List (Str × NameKind)}, (∀ y ∈ names, y.2 ≠ .cell) →
    ((names.map fun (n, k) => if (k == NameKind.free && env.scope.kind == .function && env.kindOf n == some .cell) then (n, NameKind.cell) else (n, k)).lookup x = some .cell ∨
    (names.map fun (n, k) => if (k == NameKind.free && env.scope.kind == .function && env.kindOf n == some .cell) then (n, NameKind.cell) else (n, k)).lookup x = some .free) → (x, NameKind.free) ∈ names
  | [], _, h => by simp at h
  | (n, k) :: r, hc, h => by
    have ih := @relabel_only env x r fun y hy => hc y (List.mem_cons_of_mem _ hy)
    have h2 : List.lookup x ((if (k == NameKind.free && env.scope.kind == .function && env.kindOf n == some .cell) = true then (n, NameKind.cell) else (n, k)) :: _) = _ ∨ List.lookup x ((if (k == NameKind.free && env.scope.kind == .function && env.kindOf n == some .cell) = true then (n, NameKind.cell) else (n, k)) :: _) = _ := h
    clear h
    by_cases hq : (k == NameKind.free && env.scope.kind == .function && env.kindOf n == some .cell) = true
    · rw [if_pos hq, List.lookup_cons] at h2
      cases hx : x == n with
      | true =>
        have e : x = n := by simpa using hx
        subst e
        have hk : k = .free := by
          rw [Bool.and_eq_true, Bool.and_eq_true] at hq
          simpa using hq.1.1
        subst hk
        exact List.mem_cons_self
      | false => rw [hx] at h2; exact List.mem_cons_of_mem _ (ih h2)
    · rw [if_neg hq, List.lookup_cons] at h2
      cases hx : x == n with
      | true =>
        rw [hx] at h2
        have e : x = n := by simpa using hx
        subst e
        rcases h2 with h | h
        · have h' : some k = some NameKind.cell := h
          exact absurd (Option.some.inj h') (hc (x, k) List.mem_cons_self)
        · have h' : some k = some NameKind.free := h
          rw [Option.some.inj h']
          exact List.mem_cons_self
      | false => rw [hx] at h2; exact List.mem_cons_of_mem _ (ih h2)

/-- within a comprehension's block -/
def compX (X : Cx) (scope : Scope) (N : List Str) (s₀ : Shared) (H₀ : Hp) (C : Addr) (fp : List Addr) (pn : List (Addr × Obj)) : Cx :=
  { X with N := N, s₀ := s₀, H₀ := H₀, env := compEnvC scope (capsOf X.env scope.names []) C X.env, outer := X.stack, ex := fp, fn := fun _ => false, pn := pn, xe := fun _ _ => False }
/-- what a block's scope must be: its own names ls, the names that it takes over cs, at the places js of the def -/
structure CompScope (N : List Str) (sc : Scope) (scope : Scope) (ls : List Str) (js : List Nat) (cs : List Str) : Prop where
  kind : scope.kind = .function
  ncell : ∀ x ∈ scope.names, x.2 ≠ .cell
  names : ∀ x ∈ scope.names, x.2 = .local → scope.names.lookup x.1 = some .local
  loc : ∀ x ∈ ls, scope.names.lookup x = some .local
  at_ : cs = js.filterMap (N[·]?)
  len : cs.length = js.length
  cap : ∀ x ∈ cs, scope.names.lookup x = some .free ∧ (sc.names.lookup x = some .cell ∨ sc.names.lookup x = some .free)
  free : ∀ x ∈ scope.names, x.2 = .free → (sc.names.lookup x.1 = some .cell ∨ sc.names.lookup x.1 = some .free)
  nd : (ls ++ cs).Nodup

section
variable {X : Cx} {pins : List (Addr × Obj)} {σ : St} {H : Hp} {s : Shared} {scope : Scope} {ls cs : List Str} {js : List Nat} {fp : List Addr}
theorem CompScope.has (S : CompScope X.N X.env.scope scope ls js cs) (ok : X.Ok) : ∀ x ∈ scope.names, x.2 = .free → ∃ c, X.env.cells.lookup x.1 = some c := fun x hx hf => ok.has x.1 (S.free x hx hf)
/-- the names' values at the block's entry -/
def capσ (ls : List Str) (js : List Nat) (σ : St) : St := ls.map (fun _ => none) ++ js.map fun j => (σ[j]?).join
theorem comp_ok (S : CompScope X.N X.env.scope scope ls js cs) (I : Inv X pins σ H s) (hf : ∀ b ∈ fp, FpOk X pins H b) (hl : ∀ b ∈ fp, b < s.heap.objs.size) : (compX X scope (ls ++ cs) s H s.heap.objs.size fp (X.pn ++ pins)).Ok := by
  have fromX : ∀ {x : Str} {c : Addr}, (capsOf X.env scope.names []).lookup x = some c → X.env.cells.lookup x = some c := fun {x c} h => caps_from (S.has I.ok) (fun y d h => by simp at h) h
  refine ⟨I.ok.mod, S.kind, I.ok.glob, I.ok.blt, Nat.le_refl _, fun x y c h1 h2 => I.ok.inj x y c (fromX h1) (fromX h2), fun x h => caps_has (.inl (relabel_only S.ncell h)), (fun x c h => Bool.noConfusion (show false = true from h)), I.ok.hd, I.ok.frames, .inl rfl, fun b hb => ⟨Nat.ne_of_lt (hl b hb), fun x c h => (hf b hb).2.2.2.2.1 x c (fromX h)⟩,
    I.bs, Nat.le_trans I.ok.bsz I.sz, fun b o e hb => ?_, fun b hb hm => ?_, I.stack, I.stkFree⟩
  · rcases (hf b hb).2.2.2.1 with z | z
    · exact I.ok.noex b o e z
    · exact absurd (Nat.lt_of_lt_of_le (Heap.lt_size e) I.ok.bsz) (Nat.not_lt.mpr z)
  · rcases List.mem_cons.mp (I.stkSub b hm) with z | z
    · exact (hf b hb).2.1 z
    · exact (hf b hb).2.2.1 z
theorem comp_inv {h1 : Heap} {m : Str → Option Value} (S : CompScope X.N X.env.scope scope ls js cs) (I : Inv X pins σ H s) (hf : ∀ b ∈ fp, FpOk X pins H b) (hl : ∀ b ∈ fp, b < s.heap.objs.size)
    (hn : h1.Ns s.heap.objs.size m) (hk : ∀ b o, s.heap.get? b = some o → h1.get? b = some o) :
    Inv (compX X scope (ls ++ cs) s H s.heap.objs.size fp (X.pn ++ pins)) [] (capσ ls js σ) H { s with heap := h1 } := by
  have fromX : ∀ {x : Str} {c : Addr}, (capsOf X.env scope.names []).lookup x = some c → X.env.cells.lookup x = some c := fun {x c} h => caps_from (S.has I.ok) (fun y d h => by simp at h) h
  have len : (capσ ls js σ).length = (ls ++ cs).length := by
    unfold capσ
    rw [List.length_append, List.length_append, List.length_map, List.length_map, S.len]
  refine ⟨comp_ok S I hf hl, rfl, I.bare, Un.kept hk, ⟨m, hn, fun i x v e1 e2 e3 => ?_⟩, fun x c e => ?_, I.hok.fresh (Nat.le_refl _), fun x c e => I.freeC x c (fromX e), fun p hp => ?_, I.hok.kept hk, len⟩
  · have e1 : (ls ++ cs)[i]? = some x := e1
    unfold capσ at e2
    by_cases hi : i < ls.length
    · rw [List.getElem?_append_left (by simpa using hi), List.getElem?_map] at e2
      cases q : ls[i]? with
      | none => rw [q] at e2; cases e2
      | some y => rw [q] at e2; cases e2
    · have hi' : ls.length ≤ i := Nat.not_lt.mp hi
      rw [List.getElem?_append_right (by simpa using hi'), List.getElem?_map, List.length_map] at e2
      rw [List.getElem?_append_right hi'] at e1
      obtain ⟨hc1, hc2⟩ := S.cap x (List.mem_of_getElem? e1)
      cases q : js[i - ls.length]? with
      | none => rw [q] at e2; cases e2
      | some j =>
        rw [q] at e2
        have e2 : (σ[j]?).join = some v := Option.some.inj e2
        have eN : X.N[j]? = some x := by
          have aux : ∀ (js : List Nat) (cs : List Str) (i : Nat), cs = js.filterMap (X.N[·]?) → cs.length = js.length → ∀ j x, js[i]? = some j → cs[i]? = some x → X.N[j]? = some x := by
            intro js
            induction js with
            | nil => intro cs i _ _ j x hj _; simp at hj
            | cons a r ih =>
              intro cs i he hl j x hj hx
              rw [List.filterMap_cons] at he
              cases qa : X.N[a]? with
              | none =>
                rw [qa] at he
                have hle := List.length_filterMap_le (X.N[·]?) r
                simp only at he
                rw [he, List.length_cons] at hl
                omega
              | some y =>
                rw [qa] at he
                simp only at he
                subst he
                cases i with
                | zero =>
                  simp at hj hx
                  subst hj hx
                  exact qa
                | succ i => exact ih _ i rfl (by simpa using hl) j x (by simpa using hj) (by simpa using hx)
          exact aux js cs _ S.at_ S.len j x q e1
        obtain ⟨mX, _, hlX⟩ := I.loc
        have e2' : σ[j]? = some (some v) := by
          cases z : σ[j]? with
          | none => rw [z] at e2; cases e2
          | some w => rw [z] at e2; rw [show w = some v from e2]
        obtain ⟨u, r, l⟩ := hlX j x v eN e2' (hc2.elim (fun z => .inr (.inl z)) fun z => .inr (.inr z))
        refine ⟨u, r, ?_⟩
        rcases l with ⟨z, _⟩ | ⟨_, c, z1, o, z2, z3⟩
        · have z : X.env.scope.names.lookup x = some .local := z
          rcases hc2 with w | w <;> (rw [z] at w; cases w)
        · refine .inr ⟨relabel_free hc1, c, ?_, o, hk c o z2, z3⟩
          obtain ⟨c', hc'⟩ := caps_has (env := X.env) (l := scope.names) (acc := []) (x := x) (.inl (PySem.mem_of_lookup hc1))
          have := fromX hc'
          rw [z1] at this
          cases this
          exact hc'
  · obtain ⟨v, o, z1, z2⟩ := I.cell x c (fromX e)
    exact ⟨v, o, hk c o z1, z2⟩
  · have hp : p ∈ X.pn ++ pins := by simpa [compX] using hp
    obtain ⟨e, n, ne, nf, d⟩ := I.pin p hp
    refine ⟨hk _ _ e, n, Nat.ne_of_lt (Heap.lt_size e), fun hm => ?_, d⟩
    rcases List.mem_cons.mp (I.stkSub p.1 hm) with z | z
    · exact ne z
    · exact nf z
end

section
variable {prog : Program} {w : World} {A : Around} {R : Result → Shared → Prop} {s : Shared}
theorem compLoop_any {elt target iter : Expr} {ifs : List Expr} {scope : Scope} {pos : Pos} {it acc : Value} {env : Env} (L : Nat → Shared → Prop)
    (turn : ∀ n s, L n s → wpAny (model prog w) A (pyNext it) (fun r s₁ => match r with
      | none => R (.ok .next) s₁
      | some v => wpAny (model prog w) A (letOwnedTupleGo target it v) (fun _ s₁' => wpAny (model prog w) A (assign target env v) (fun _ s₂ =>
          wpAny (model prog w) A (forIn ifs true fun c r => if r = true then do let ok ← isTrue c env (eval c env); pure (ForInStep.yield ok) else pure (ForInStep.yield r)) (fun ok s₃ =>
            if ok = true then wpAny (model prog w) A (eval elt env) (fun x s₄ =>
              wpAny (model prog w) A (call (.builtin "list.append") [acc, x]) (fun _ s₅ => ∃ m, m < n ∧ L m s₅) (fun _ _ => False) s₄) (fun _ _ => False) s₃
            else ∃ m, m < n ∧ L m s₃) (fun _ _ => False) s₂) (fun _ _ => False) s₁') (fun _ _ => False) s₁) (fun _ _ => False) s)
    (n : Nat) (h : L n s) : codeAny (model prog w) A (.compLoop (.ListComp elt [⟨target, iter, ifs, 0⟩] scope pos) 0 it acc env) R s := by
  refine codeAny_loop rfl L (fun n s hI => ?_) n h
  show wpAny _ A ((compTurn (.ListComp elt [⟨target, iter, ifs, 0⟩] scope pos) 0 it acc env).onRaise (fun x => do noteFrame x env; theTreesLotGoes x)) _ _ s
  refine wpAny_noted ?_
  rw [compTurn_list]
  refine wpAny_mono (E := fun _ _ => False) ?_ (fun _ _ q => q) fun _ _ z => False.elim z
  refine wpAny_bind (wpAny_standAt (wpAny_bind (wpAny_mono (turn n s hI) (fun r s₁ h₁ => ?_) fun _ _ h' => h')))
  cases r with
  | none => exact wpAny_pure h₁
  | some v =>
    refine wpAny_bind (wpAny_mono h₁ (fun _ s₁' h₁ => ?_) fun _ _ h' => h')
    refine wpAny_bind (wpAny_mono h₁ (fun _ s₂ h₂ => wpAny_bind (wpAny_mono h₂ (fun ok s₃ h₃ => ?_) fun _ _ h' => h')) fun _ _ h' => h')
    cases ok with
    | false => exact wpAny_pure ⟨rfl, h₃⟩
    | true =>
      exact wpAny_bind (wpAny_bind (wpAny_mono h₃ (fun x s₄ h₄ => wpAny_bind (wpAny_mono h₄ (fun _ s₅ h₅ => wpAny_pure (wpAny_pure ⟨rfl, h₅⟩)) fun _ _ h' => h')) fun _ _ h' => h'))
end

/-- the block's tests (none or one) -/
def PTs (X : Cx) (ifs : List Expr) (t : TT) : Prop :=
  ∀ (pins : List (Addr × Obj)) (s : Shared) (σ : St) (H : Hp) (Q : Bool → Hp → Prop), Inv X pins σ H s → t σ H Q →
    wpAny (model X.prog X.w) X.A (forIn ifs true fun c r => if r = true then do let ok ← isTrue c X.env (eval c X.env); pure (ForInStep.yield ok) else pure (ForInStep.yield r)) (TP X pins σ Q) X.xe s
def tYes : TT := fun _ H Q => Q true H
theorem pts_nil {X : Cx} : PTs X [] tYes := fun _ _ _ H _ I h => wpAny_tests_nil ⟨H, I, h⟩
/-- the block's turns, by an invariant W -/
def CompW (J : It) (ls : List Str) (js : List Nat) (g : TG) (tt : TT) (te : TE) (σ : St) (H1 : Hp) (D : Addr) (Q : VK) : Prop :=
  ∃ W : Nat → Nat → List V → St → Hp → Prop, (∃ m, W 0 m [] (capσ ls js σ) (upd H1 D (.lst []))) ∧ ∀ i m ys σ' H', W i m ys σ' H' →
  (J.stop i H' ∧ Q (.ref D) H') ∨ (J.go i H' ∧ ∃ N : List V → St → Hp → Prop, (∀ ys' σ2 H2, N ys' σ2 H2 → ∃ m', m' < m ∧ W (i + 1) m' ys' σ2 H2) ∧ ∀ x H2, J.yld i H' x H2 → g x σ' H2 fun σ2 H3 => tt σ2 H3 fun b H4 =>
    if b = true then te σ2 H4 fun y H5 => H5 D = some (.lst ys) ∧ ys.length < sizeLine ∧ N (ys ++ [y]) σ2 (upd H5 D (.lst (ys ++ [y]))) else N ys σ2 H4)
def tComp (wi : TI) (ls : List Str) (js : List Nat) (g : TG) (tt : TT) (te : TE) : TE := fun σ H Q => wi σ H fun J H1 => ∀ D, H1 D = none → CompW J ls js g tt te σ H1 D Q
section
variable {X : Cx} {tg iter elt : Expr} {ifs : List Expr} {scope : Scope} {pos : Pos} {wi : TI} {g : TG} {tt : TT} {te : TE} {ls cs : List Str} {js : List Nat}
theorem comp_core {pins : List (Addr × Obj)} {s : Shared} {σ : St} {H : Hp} {Q : VK} {use : Option (Value → Sem Unit)} {QQ : Value → Shared → Prop} (hc : X.calm = true) (S : CompScope X.N X.env.scope scope ls js cs) (hi : PI X tg iter wi)
    (hg : ∀ s₀ H₀ C fp pn, PG (compX X scope (ls ++ cs) s₀ H₀ C fp pn) tg g) (ht : ∀ s₀ H₀ C fp pn, PTs (compX X scope (ls ++ cs) s₀ H₀ C fp pn) ifs tt) (he : ∀ s₀ H₀ C fp pn, PE (compX X scope (ls ++ cs) s₀ H₀ C fp pn) elt te)
    (I : Inv X pins σ H s) (h : tComp wi ls js g tt te σ H Q)
    (hend : ∀ (D C : Addr) (H' : Hp) (s' : Shared) (m : Str → Option Value), Inv X pins σ H' s' → Q (.ref D) H' → s'.heap.Ns C m → FpOk X pins H' C → compPost (model X.prog X.w) X.A X.xe use QQ (.ref D) C (.ok .next) s')
    (hs : ∀ x, foldedSetIterable iter X.env x = pure x := by intro _; rfl) :
    wpAny (model X.prog X.w) X.A (comprehension (.ListComp elt [⟨tg, iter, ifs, 0⟩] scope pos) scope X.env (firstIterPos [⟨tg, iter, ifs, 0⟩] pos) (newList []) false (eval iter X.env) use) QQ X.xe s := by
  refine wpAny_comprehension_free rfl hs (closure_caps (S.has I.ok)) S.kind S.names (thn (hi pins s σ H _ I h) fun v s1 h1 => thn h1 fun itv s2 h2 => ?_)
  obtain ⟨it, fp, tn, J, H2, rfl, I2, T, st2, f2, hW⟩ := h2
  have fl2 : ∀ b ∈ fp, b < s2.heap.objs.size := fun b hb => by
    obtain ⟨o, e, _⟩ := T.obj 0 _ st2 b hb
    exact Heap.lt_size e
  refine wpAny_newObj_type ?_
  have hD : H2 s2.heap.objs.size = none := I2.hok.fresh (Nat.le_refl _)
  obtain ⟨W, ⟨m0, w0⟩, turn⟩ := hW _ hD
  have I3 : Inv X pins σ (upd H2 s2.heap.objs.size (.lst [])) { s2 with heap := s2.heap.push { cls := .type "list", dict := none, data := .seq ([] : List Value).toArray } } :=
    I2.laid (t' := s2.toks) (fun b u e => Heap.get?_push_of_some _ e) (Nat.le_refl _) ⟨Nat.zero_le _, [], 0, .nil, Heap.get?_push_size _ rfl⟩
  have f3 : ∀ b ∈ fp, FpOk X pins (upd H2 s2.heap.objs.size (.lst [])) b := fun b hb => ⟨by rw [upd_ne (Nat.ne_of_lt (fl2 b hb))]; exact (f2 b hb).1, (f2 b hb).2⟩
  generalize hH3 : upd H2 s2.heap.objs.size (.lst []) = H3 at I3 f3 w0
  generalize hs3 : ({ s2 with heap := s2.heap.push { cls := .type "list", dict := none, data := .seq ([] : List Value).toArray } } : Shared) = s3 at I3
  have fl3 : ∀ b ∈ fp, b < s3.heap.objs.size := fun b hb => by
    rw [← hs3]
    show b < (s2.heap.push _).objs.size
    rw [Heap.size_push]
    exact Nat.lt_succ_of_lt (fl2 b hb)
  have st3 : tn 0 s3.heap := T.keep 0 _ _ st2 fun b hb o e => by rw [← hs3]; exact Heap.get?_push_of_some _ e
  refine wpAny_newFunctionEnv S.ncell (by intro y hy; simp at hy) (fun h4 hns hsb => ?_) S.kind
  have k4 : ∀ b o, s3.heap.get? b = some o → h4.get? b = some o := fun b o e => hsb.extBut b o (Nat.ne_of_lt (Heap.lt_size e)) (Heap.get?_push_of_some _ e)
  have I4 := comp_inv (h1 := h4) S I3 f3 fl3 hns k4
  have I4' := I4.tok (s3.toks + ([] : List (Str × Value)).length)
  have st4 : tn 0 h4 := T.keep 0 _ _ st3 fun b hb o e => k4 b o e
  show codeAny (model X.prog X.w) X.A (.compStart (.ListComp elt [⟨tg, iter, ifs, 0⟩] scope pos) 0 (.ref it) (.ref s2.heap.objs.size) (compEnvC scope (capsOf X.env scope.names []) s3.heap.objs.size X.env)) (compPost (model X.prog X.w) X.A X.xe use QQ (.ref s2.heap.objs.size) s3.heap.objs.size) _
  have stat : ∀ {H' : Hp}, (∀ b ∈ fp, H' b = none) → ∀ b ∈ fp, FpOk (compX X scope (ls ++ cs) s3 H3 s3.heap.objs.size fp (X.pn ++ pins)) [] H' b := fun {H'} hn b hb => by
    obtain ⟨q1, q2, q3, q4, q5, q6⟩ := f3 b hb
    refine ⟨hn b hb, Nat.ne_of_lt (fl3 b hb), fun hm => ?_, .inl hb, fun x c e => q5 x c (caps_from (S.has I.ok) (fun y d z => by simp at z) e), fun p hp => q6 p (by simpa [compX] using hp)⟩
    rcases List.mem_cons.mp (I3.stkSub b hm) with z | z
    · exact q2 z
    · exact q3 z
  have loop : codeAny (model X.prog X.w) X.A (.compLoop (.ListComp elt [⟨tg, iter, ifs, 0⟩] scope pos) 0 (.ref it) (.ref s2.heap.objs.size) (compEnvC scope (capsOf X.env scope.names []) s3.heap.objs.size X.env)) (compPost (model X.prog X.w) X.A X.xe use QQ (.ref s2.heap.objs.size) s3.heap.objs.size)
      { s3 with heap := h4, toks := s3.toks + ([] : List (Str × Value)).length } := by
    refine compLoop_any (fun n s' => ∃ i σ' H', Inv (compX X scope (ls ++ cs) s3 H3 s3.heap.objs.size fp (X.pn ++ pins)) [] σ' H' s' ∧ tn i s'.heap ∧ (∀ b ∈ fp, H' b = none) ∧ ∃ ys, W i n ys σ' H') ?_ m0 ⟨0, _, _, I4', st4, fun b hb => (f3 b hb).1, [], w0⟩
    rintro n s5 ⟨i, σ5, H5, I5, st5, fr5, ys, w5⟩
    rcases turn i n ys σ5 H5 w5 with ⟨stop, qn⟩ | ⟨go, N, hN, step⟩
    · refine thn (T.done (compX X scope (ls ++ cs) s3 H3 s3.heap.objs.size fp (X.pn ++ pins)) rfl rfl rfl hc i [] s5 σ5 H5 (fun _ _ => False) I5 (stat fr5) st5 stop) fun r s6 ⟨hr, I6⟩ => ?_
      subst hr
      obtain ⟨m, hm, _⟩ := id I6.loc
      have un : Un (frs X.stack) fp H3 H5 s3.heap s6.heap := I6.base
      have I7 : Inv X pins σ H5 s6 := I3.call' (ch := fp) I6.os un I6.hok I6.bare fun b hb => by
        obtain ⟨q1, q2, q3, q4, q5, q6⟩ := f3 b hb
        exact ⟨q4, q2, q5, q6⟩
      have fc : FpOk X pins H5 s3.heap.objs.size := I3.fpOk (Nat.le_refl _) I6.free
      exact hend _ _ H5 s6 m I7 qn hm fc
    · refine thn (T.item (compX X scope (ls ++ cs) s3 H3 s3.heap.objs.size fp (X.pn ++ pins)) rfl rfl rfl hc i [] s5 σ5 H5 (fun _ _ => False) I5 (stat fr5) st5 go) fun r s6 ⟨u, hr, h6⟩ => ?_
      subst hr
      refine thn h6 fun _ s7 ⟨x, H7, I7, r7, y7, st7, fr7⟩ => ?_
      have I7' := I7.pinned (stat fr7) (T.obj _ _ st7)
      refine thn (hg _ _ _ _ _ _ s7 σ5 H7 x u _ I7' r7 (step x H7 y7)) fun _ s8 ⟨σ8, H8, I8, q8⟩ => ?_
      refine thn (ht _ _ _ _ _ _ s8 σ8 H8 _ I8 q8) fun b s9 ⟨H9, I9, q9⟩ => ?_
      have again : ∀ {ys' : List V} {σ' : St} {H' : Hp} {s' : Shared}, Inv (compX X scope (ls ++ cs) s3 H3 s3.heap.objs.size fp (X.pn ++ pins)) ([] ++ pinsAt fp s7.heap) σ' H' s' → N ys' σ' H' →
          ∃ m, m < n ∧ ∃ i σ' H', Inv (compX X scope (ls ++ cs) s3 H3 s3.heap.objs.size fp (X.pn ++ pins)) [] σ' H' s' ∧ tn i s'.heap ∧ (∀ b ∈ fp, H' b = none) ∧ ∃ ys, W i m ys σ' H' := fun {ys' σ' H' s'} I' n' => by
        obtain ⟨m', hm', w'⟩ := hN ys' σ' H' n'
        refine ⟨m', hm', i + 1, σ', H', I'.unpinned, T.keep _ _ _ st7 fun b hb o e => (I'.pin (b, o) (List.mem_append_right _ (List.mem_append_right _ (mem_pinsAt hb e)))).1, fun b hb => ?_, ys', w'⟩
        obtain ⟨o, e, d⟩ := T.obj _ _ st7 b hb
        exact (I'.pin (b, o) (List.mem_append_right _ (List.mem_append_right _ (mem_pinsAt hb e)))).2.1
      cases b with
      | false => exact again I9 q9
      | true =>
        refine thn (he _ _ _ _ _ _ s9 σ8 H9 _ I9 q9) fun u2 s10 ⟨y, H10, I10, r10, hys, hz, q10⟩ => ?_
        refine thn (mt_append _ s10 σ8 H10 (.ref s2.heap.objs.size) [y] (.ref s2.heap.objs.size) [u2] (fun _ H' => N (ys ++ [y]) σ8 H') I10 rfl (.cons r10 .nil) ⟨_, ys, y, rfl, rfl, hys, hz, q10⟩) fun _ s11 ⟨_, H11, I11, _, q11⟩ => ?_
        exact again I11 q11
  exact codeAny_compStart_list loop (T.self _ 0 _ _ _ st4 loop)
/-- [elt for tg in iter if ..] as a value -/
theorem pe_comp (hc : X.calm = true) (S : CompScope X.N X.env.scope scope ls js cs) (hi : PI X tg iter wi)
    (hg : ∀ s₀ H₀ C fp pn, PG (compX X scope (ls ++ cs) s₀ H₀ C fp pn) tg g) (ht : ∀ s₀ H₀ C fp pn, PTs (compX X scope (ls ++ cs) s₀ H₀ C fp pn) ifs tt) (he : ∀ s₀ H₀ C fp pn, PE (compX X scope (ls ++ cs) s₀ H₀ C fp pn) elt te)
    (hs : ∀ x, foldedSetIterable iter X.env x = pure x := by intro _; rfl) : PE X (.ListComp elt [⟨tg, iter, ifs, 0⟩] scope pos) (tComp wi ls js g tt te) := by
  intro pins s σ H Q I h
  rw [eval_ListComp]
  refine comp_core (use := none) hc S hi hg ht he I h (fun D C H' s' m I' q hm fc => ⟨m, hm, fun h' hsb => ?_⟩) hs
  obtain ⟨q1, q2, q3, q4, q5, q6⟩ := fc
  exact ⟨.ref D, H', I'.turned (t' := s'.toks) (fun b o hb e => hsb.extBut b o hb e) q1 (Ne.symm (Ne.symm q2)) q4 q5 q6, rfl, q⟩
/-- x = [elt for tg in iter if ..], the store within the block's end -/
theorem ps_comp {x : Str} {i : Nat} {pos' spos : Pos} (hc : X.calm = true) (hN : X.N.Nodup) (hi' : X.N[i]? = some x) (hx : X.env.scope.names.lookup x = some .local) (S : CompScope X.N X.env.scope scope ls js cs) (hi : PI X tg iter wi)
    (hg : ∀ s₀ H₀ C fp pn, PG (compX X scope (ls ++ cs) s₀ H₀ C fp pn) tg g) (ht : ∀ s₀ H₀ C fp pn, PTs (compX X scope (ls ++ cs) s₀ H₀ C fp pn) ifs tt) (he : ∀ s₀ H₀ C fp pn, PE (compX X scope (ls ++ cs) s₀ H₀ C fp pn) elt te)
    (hsw : swapsWith (.ListComp elt [⟨tg, iter, ifs, 0⟩] scope pos) (some (.Name x pos')) spos.line X.env = pure true := by rfl)
    (hs : ∀ x, foldedSetIterable iter X.env x = pure x := by intro _; rfl) : PS X (.Assign [.Name x pos'] (.ListComp elt [⟨tg, iter, ifs, 0⟩] scope pos) spos) (tAsg (tComp wi ls js g tt te) (gName i)) := by
  intro pins s σ H D I h
  rw [exec_Assign_Name_used _ _ _ _ hsw]
  refine wpAny_bind (wpAny_standAt (wpAny_bind ?_))
  show wpAny _ X.A (do let _ ← comprehension (.ListComp elt [⟨tg, iter, ifs, 0⟩] scope pos) scope X.env (firstIterPos [⟨tg, iter, ifs, 0⟩] pos) (newList []) false (eval iter X.env) (some (assign (.Name x pos') X.env))) _ _ s
  refine wpAny_bind (wpAny_mono (comp_core (use := some (assign (.Name x pos') X.env)) (QQ := fun _ s' => SP X pins D .next s') hc S hi hg ht he I h (fun Dl C H' s' m I' q hm fc => ?_) hs) (fun _ s' hq => wpAny_pure (wpAny_pure hq)) fun _ _ e => e)
  show wpAny _ X.A (assign (.Name x pos') X.env (.ref Dl)) _ _ _
  obtain ⟨q1, q2, q3, q4, q5, q6⟩ := fc
  refine wpAny_assign_Name (store_ok2 (v := .ref Dl) I' hN hi' (.inl hx) rfl (fun s2 I2 ⟨a, hsb, ha⟩ => ?_) (.inr hx))
  have hne : C ≠ a := by
    rcases ha with rfl | ha
    · exact q2
    · exact fun z => q5 x a ha z.symm
  refine ⟨m, hm.sameBut hsb hne, fun h' hsb2 => ?_⟩
  exact ⟨_, H', I2.turned (t' := s2.toks) (fun b o hb e => hsb2.extBut b o hb e) q1 q2 q4 q5 q6, q⟩
end
end L2

set_option Elab.async false
set_option linter.all false
set_option maxRecDepth 100000
set_option maxHeartbeats 4000000
namespace L2
open PySem PySem.Spec PyProof.Rows PySem.W PySem.Calls

/-! ### texts: the signs one by one -/
def Its (z : Str) : It := ⟨fun i _ => i < z.length, fun i H x H' => H' = H ∧ ∃ c, z.cps.toList[i]? = some c ∧ x = .str ⟨#[c]⟩, fun i _ => z.length ≤ i⟩
theorem turn_str {P : Program} {w : World} {K : Frag} {tg : Expr} {it : Addr} {z : Str} {ty : String} {t : Tok} (hty : ty = "str_ascii_iterator" ∨ ty = "str_iterator") : Turn P w K tg (Its z) [it] it (fun i h => h.IsStrIter it ty z t i) where
  mem := by simp
  obj := fun i h st b hb => by
    have e : b = it := by simpa using hb
    subst e
    obtain ⟨o, e, c, d⟩ := st
    exact ⟨o, e, fun v z => by rw [d] at z; cases z⟩
  keep := fun i h h' st k => let ⟨o, ho, r⟩ := st; ⟨o, k it (by simp) o ho, r⟩
  item := by
    intro X hP hw hK hc i pins s σ H E I hf st hg
    subst hP hw hK
    obtain ⟨f0, f1, f2, f3, f4, f5⟩ := hf it (by simp)
    have hg : i < z.cps.size := hg
    have key : ∀ h', h'.IsStrIter it ty z t (i + 1) → Heap.SameBut it s.heap h' → ∃ u, some (Value.str ⟨#[z.cps[i]]⟩ s.toks) = some u ∧
        wpAny (model X.prog X.w) X.A (letOwnedTupleGo tg (.ref it) u) (fun _ s2 => ∃ x H', Inv X pins σ H' s2 ∧ RelV x u ∧ (Its z).yld i H x H' ∧ s2.heap.IsStrIter it ty z t (i + 1) ∧ ∀ b ∈ [it], H' b = none) E { s with heap := h', toks := s.toks + 1 } := fun h' st' sb => by
      have I1 : Inv X pins σ H { s with heap := h', toks := s.toks + 1 } := I.turned (fun b o hb e => (sb.2 b hb).trans e) f0 f1 f3 f4 f5
      obtain ⟨o, e, c, d⟩ := id st'
      refine ⟨_, rfl, go_of (s := { s with heap := h', toks := s.toks + 1 }) e c d (by rcases hty with rfl | rfl <;> decide) ⟨.str ⟨#[z.cps[i]]⟩, H, I1, ⟨_, rfl⟩, ⟨rfl, z.cps[i], by simp [hg], rfl⟩, st', fun b hb => (hf b hb).1⟩⟩
    rcases hty with rfl | rfl
    · exact wpAny_pyNext_ascii_item st (c := z.cps[i]) (by simp [hg]) key
    · exact wpAny_pyNext_wide_item st (c := z.cps[i]) (by simp [hg]) key
  done := by
    intro X hP hw hK hc i pins s σ H E I hf st hg
    subst hP hw hK
    obtain ⟨f0, f1, f2, f3, f4, f5⟩ := hf it (by simp)
    have hg : z.cps.size ≤ i := hg
    rcases hty with rfl | rfl
    · exact wpAny_pyNext_ascii_end (I.ok.hd hc) st (by simp [hg]) fun h' eb => ⟨rfl, I.turned (t' := s.toks) (fun b o hb e => eb b o hb e) f0 f1 f3 f4 f5⟩
    · exact wpAny_pyNext_wide_end (I.ok.hd hc) st (by simp [hg]) fun h' eb => ⟨rfl, I.turned (t' := s.toks) (fun b o hb e => eb b o hb e) f0 f1 f3 f4 f5⟩
  self := fun _ _ _ _ _ st h => by
    rcases hty with rfl | rfl
    · exact wpAny_pyIter_striter_ascii st h
    · exact wpAny_pyIter_striter_wide st h
section
variable {X : Cx} {tg : Expr}
def iStr (tl : TE) : TI := fun σ H R => tl σ H fun x H1 => ∃ z, x = .str z ∧ R (Its z) H1
theorem pi_str {l : Expr} {tl : TE} (hl : PE X l tl) : PI X tg l (iStr tl) := by
  intro pins s σ H R I h
  refine thn (hl pins s σ H _ I h) fun v s1 ⟨x, H1, I1, r1, q1⟩ => ?_
  obtain ⟨z, e, q⟩ := q1
  subst e
  obtain ⟨t, rfl⟩ := r1
  refine wpAny_pyIter_strU ?_
  refine ⟨s1.heap.objs.size, [s1.heap.objs.size], _, _, H1, rfl, I1.kept (t' := s1.toks) fun b o e => Heap.get?_push_of_some _ e, turn_str (ty := strIterType z) (t := t) (by unfold strIterType; split <;> simp), ⟨_, Heap.get?_push_size _ rfl, rfl, rfl⟩, fun b hb => ?_, q⟩
  have e : b = s1.heap.objs.size := by simpa using hb
  subst e
  exact I1.fpOk (Nat.le_refl _) (I1.hok.fresh (Nat.le_refl _))
end
/-! ### a comprehension, by a word: Pv i ys σ H, ys the items so far -/
theorem comp_by {J : It} {n : Nat} {ls : List Str} {js : List Nat} {g : TG} {tt : TT} {te : TE} {σ : St} {H1 : Hp} {D : Addr} {Q : VK} (Pv : Nat → List V → St → Hp → Prop)
    (h0 : Pv 0 [] (capσ ls js σ) (upd H1 D (.lst []))) (hgo : ∀ i ys σ H, i < n → Pv i ys σ H → J.go i H) (hst : ∀ ys σ H, Pv n ys σ H → J.stop n H)
    (hs : ∀ i ys σ H x H2, i < n → Pv i ys σ H → J.yld i H x H2 → g x σ H2 fun σ2 H3 => tt σ2 H3 fun b H4 => if b = true then te σ2 H4 fun y H5 => H5 D = some (.lst ys) ∧ ys.length < sizeLine ∧ Pv (i + 1) (ys ++ [y]) σ2 (upd H5 D (.lst (ys ++ [y]))) else Pv (i + 1) ys σ2 H4)
    (hd : ∀ ys σ H, Pv n ys σ H → Q (.ref D) H) :
    CompW J ls js g tt te σ H1 D Q := by
  refine ⟨fun i m ys σ H => m = n - i ∧ i ≤ n ∧ Pv i ys σ H, ⟨n, by simp, Nat.zero_le _, h0⟩, ?_⟩
  rintro i m ys σ H ⟨rfl, hi, p⟩
  by_cases hlt : i < n
  · exact .inr ⟨hgo i ys σ H hlt p, Pv (i + 1), fun ys' σ2 H2 p' => ⟨n - (i + 1), by omega, rfl, hlt, p'⟩, fun x H2 y => hs i ys σ H x H2 hlt p y⟩
  · have e : i = n := by omega
    subst e
    exact .inl ⟨hst ys σ H p, hd ys σ H p⟩
theorem comp_range {lo : Int} {n : Nat} {ls : List Str} {js : List Nat} {g : TG} {tt : TT} {te : TE} {σ : St} {H1 : Hp} {D : Addr} {Q : VK} (Pv : Nat → List V → St → Hp → Prop)
    (h0 : Pv 0 [] (capσ ls js σ) (upd H1 D (.lst [])))
    (hs : ∀ i ys σ H, i < n → Pv i ys σ H → g (.int (lo + i)) σ H fun σ2 H3 => tt σ2 H3 fun b H4 => if b = true then te σ2 H4 fun y H5 => H5 D = some (.lst ys) ∧ ys.length < sizeLine ∧ Pv (i + 1) (ys ++ [y]) σ2 (upd H5 D (.lst (ys ++ [y]))) else Pv (i + 1) ys σ2 H4)
    (hd : ∀ ys σ H, Pv n ys σ H → Q (.ref D) H) :
    CompW (Itr lo n) ls js g tt te σ H1 D Q :=
  comp_by (n := n) Pv h0 (fun i ys σ H hi p => hi) (fun ys σ H p => Nat.le_refl _)
    (fun i ys σ H x H2 hi p y => by
      obtain ⟨e, y⟩ := y
      subst e y
      exact hs i ys σ _ hi p) hd
theorem comp_str {z : Str} {ls : List Str} {js : List Nat} {g : TG} {tt : TT} {te : TE} {σ : St} {H1 : Hp} {D : Addr} {Q : VK} (Pv : Nat → List V → St → Hp → Prop)
    (h0 : Pv 0 [] (capσ ls js σ) (upd H1 D (.lst [])))
    (hs : ∀ i c ys σ H, z.cps.toList[i]? = some c → Pv i ys σ H → g (.str ⟨#[c]⟩) σ H fun σ2 H3 => tt σ2 H3 fun b H4 => if b = true then te σ2 H4 fun y H5 => H5 D = some (.lst ys) ∧ ys.length < sizeLine ∧ Pv (i + 1) (ys ++ [y]) σ2 (upd H5 D (.lst (ys ++ [y]))) else Pv (i + 1) ys σ2 H4)
    (hd : ∀ ys σ H, Pv z.length ys σ H → Q (.ref D) H) :
    CompW (Its z) ls js g tt te σ H1 D Q :=
  comp_by (n := z.length) Pv h0 (fun i ys σ H hi p => hi) (fun ys σ H p => Nat.le_refl _)
    (fun i ys σ H x H2 hi p y => by
      obtain ⟨e, c, hc, ex⟩ := y
      subst e ex
      exact hs i c ys σ _ hc p) hd

/-! ### texts: slices, comparisons, the built-ins all and any -/
/-- the signs of z[lo:hi] -/
theorem slice_cps (z : Str) (lo hi : Option Int) : (Txt.slice z lo hi).cps.toList = (z.cps.toList.drop (HT.sIx z.length 0 lo)).take (HT.sIx z.length z.length hi - HT.sIx z.length 0 lo) := by
  have hle0 := HT.sIx_le z.length 0 (Nat.zero_le _) lo
  have hle1 := HT.sIx_le z.length z.length (Nat.le_refl _) hi
  have ix : Builtin.Str.strSliceIndices lo hi 1 z.length = (List.range (HT.sIx z.length z.length hi - HT.sIx z.length 0 lo)).map (HT.sIx z.length 0 lo + ·) := by
    rw [← sliceRange_one]
    have pos : (1 : Int) > 0 := by decide
    cases lo with
    | none =>
      cases hi with
      | none => rfl
      | some j =>
        simp only [Builtin.Str.strSliceIndices, HT.sIx, pos, if_true]
        congr 1
        by_cases h : j < 0
        · simp only [h, if_true]; omega
        · simp only [h, if_false]; omega
    | some i =>
      have e1 : max 0 (min (if i < 0 then i + (z.length : Int) else i) (z.length : Int)) = ((HT.sIx z.length 0 (some i) : Nat) : Int) := by
        simp only [HT.sIx]
        by_cases h : i < 0
        · simp only [h, if_true]; omega
        · simp only [h, if_false]; omega
      cases hi with
      | none =>
        simp only [Builtin.Str.strSliceIndices, pos, if_true]
        rw [e1]
        rfl
      | some j =>
        have e2 : max 0 (min (if j < 0 then j + (z.length : Int) else j) (z.length : Int)) = ((HT.sIx z.length z.length (some j) : Nat) : Int) := by
          simp only [HT.sIx]
          by_cases h : j < 0
          · simp only [h, if_true]; omega
          · simp only [h, if_false]; omega
        simp only [Builtin.Str.strSliceIndices, pos, if_true]
        rw [e1, e2]
  have hp := pick_run z.cps (HT.sIx z.length 0 lo) (HT.sIx z.length z.length hi - HT.sIx z.length 0 lo)
  unfold Txt.slice
  rw [ix]
  split
  · rename_i h
    simp only [List.length_map, List.length_range, beq_self_eq_true, Bool.true_and, beq_iff_eq] at h
    have h0 : HT.sIx z.length 0 lo = 0 := by omega
    have h1 : HT.sIx z.length z.length hi = z.length := by omega
    rw [h0, h1, List.drop_zero, Nat.sub_zero, List.take_of_length_le (by simp [Str.length])]
  · rw [← hp]
theorem slice_len (z : Str) (lo hi : Option Int) : (Txt.slice z lo hi).length ≤ z.length := Txt.slice_le z lo hi
section
variable {X : Cx}
def rSlS : V → Option Int → Option Int → Hp → VK → Prop := fun x lo hi H Q => ∃ z, x = .str z ∧ z.length ≤ sizeLine ∧ Q (.str (Txt.slice z lo hi)) H
theorem sl_str : SlR X rSlS := by
  intro pins s σ H x v vl vu lo hi sl Q I rx hs pl pu h
  obtain ⟨z, rfl, hz, q⟩ := h
  obtain ⟨t, rfl⟩ := rx
  refine ⟨"str", _, F.slot_str_getitem.lookup, typeIs_str _ _ _, ?_⟩
  have go : ∀ l u : Option (Int × Tok), vl = partValue l → vu = partValue u → l.map (·.1) = lo → u.map (·.1) = hi → wpAny (model X.prog X.w) X.A (getItem (.str z t) (.ref sl)) (EP X pins σ Q) X.xe s := by
    rintro l u rfl rfl rfl rfl
    obtain ⟨o, h1, h2, h3⟩ := hs
    refine wpAny_getItem_str_slice (l := l) (u := u) (st := none) ⟨o, h1, h2, h3⟩ rfl ?_
    exact post_val_or_str ⟨Nat.le_trans (Txt.slice_le z _ _) hz, fun t' k => ⟨.str (Txt.slice z (l.map (·.1)) (u.map (·.1))), H, I.tok _, ⟨_, rfl⟩, q⟩⟩
  cases pl with
  | none =>
    cases pu with
    | none => exact go none none rfl rfl rfl rfl
    | int j tj => exact go none (some (j, tj)) rfl rfl rfl rfl
  | int i ti =>
    cases pu with
    | none => exact go (some (i, ti)) none rfl rfl rfl rfl
    | int j tj => exact go (some (i, ti)) (some (j, tj)) rfl rfl rfl rfl
theorem op_le_str : OpR X (compareOp .LtE) (fun x y H Q => ∃ i j, x = .str i ∧ y = .str j ∧ Q (.bl (!decide (j.cps.toList < i.cps.toList))) H) := by
  intro pins s σ H x y v u Q I rx ry h
  obtain ⟨i, j, rfl, rfl, q⟩ := h
  obtain ⟨t, rfl⟩ := rx
  obtain ⟨t', rfl⟩ := ry
  exact P.le_str (fin_bl I q rfl)
theorem vals_bl {bs : List Bool} {us : List Value} (r : Vals (bs.map V.bl) us) (i : Nat) (v : Value) (h : us[i]? = some v) : v = .bool (bs.getD i false) := by
  induction bs generalizing us i with
  | nil => cases r; simp at h
  | cons b r' ih =>
    cases r with
    | cons r0 rr =>
      cases i with
      | zero =>
        have h0 : some _ = some v := h
        cases h0
        exact r0
      | succ i => simpa using ih rr i (by simpa using h)
theorem all_range (bs : List Bool) : (List.range bs.length).all (fun i => bs.getD i false) = bs.all id := by
  rw [Bool.eq_iff_iff, List.all_eq_true, List.all_eq_true]
  constructor
  · intro h b hb
    obtain ⟨i, hi, rfl⟩ := List.mem_iff_getElem.mp hb
    have := h i (by simpa using hi)
    simpa [hi] using this
  · intro h i hi
    have hi : i < bs.length := by simpa using hi
    simpa [hi] using h bs[i] (List.getElem_mem hi)
def rAll (K : Frag) (f : List Bool → Bool) : List V → Hp → VK → Prop := fun xs H Q => ∃ a bs, xs = [.ref a] ∧ SqL K H a (bs.map V.bl) ∧ Q (.bl (f bs)) H
theorem call_all (hc : X.calm = true) : CallR X (.builtin "all") (rAll X.K fun bs => bs.all id) := by
  intro pins s σ H xs us Q I r h
  obtain ⟨a, bs, rfl, hq, q⟩ := h
  cases r with
  | cons r rr =>
    cases rr
    cases r
    obtain ⟨its, rv, p, hz⟩ := I.list hq
    have hl := rv.length
    rw [List.length_map] at hl
    refine call_all_walk (wpAny_pyIter_list p.isList ?_)
    have hne : a ≠ s.heap.objs.size := by
      obtain ⟨o, n, e, _⟩ := p
      exact Nat.ne_of_lt (Heap.lt_size e)
    refine ⟨s.heap.objs.size, _, _, _, _, _, fun i => bs.getD i false, rfl, Walks.list (A := X.A.in1) (show X.A.in1.handled = none from I.ok.hd hc) _ a hne its.toArray, ⟨⟨_, Heap.get?_push_size _ rfl, rfl, rfl⟩, p.isList.at fun o e => Heap.get?_push_of_some _ e⟩, fun i v s1 Q1 E1 hv q1 => ?_, fun h' tk hk => ?_⟩
    · have hv := vals_bl rv i v (by simpa using hv)
      subst hv
      exact wpAny_truthy_bool q1
    · rw [List.size_toArray, ← hl, all_range]
      refine ⟨.bl (bs.all id), H, I.kept fun b o e => hk b o (fun z => ?_) (Heap.get?_push_of_some _ e), rfl, q⟩
      have z : b = s.heap.objs.size := by simpa using z
      exact absurd (z ▸ Heap.lt_size e) (Nat.lt_irrefl _)
/-- isinstance(x, c), c a built-in class or a class of the text -/
def clsOf : V → Option Value
  | .ty n => some (.type n)
  | .ref C => some (.ref C)
  | _ => none
theorem clsOf_rel {c : V} {cv u : Value} (h : clsOf c = some cv) (r : RelV c u) : u = cv := by
  cases c <;> first
    | (cases h; done)
    | (cases h; exact r)
inductive rIsi (K : Frag) (xs : List V) (H : Hp) (Q : VK) : Prop
  | mk (x : _) (c : _) (t : _) (b : _) (cv : _) (_ : xs = [x, c]) (_ : clsOf c = some cv) (_ : TyOf K H x t) (_ : kitOne K t cv = some b) (_ : Q (.bl b) H) : rIsi K xs H Q
theorem call_isi : CallR X (.builtin "isinstance") (rIsi X.K) := by
  intro pins s σ H xs us Q I r h
  obtain ⟨x, c, t, b, cv, rfl, rc, ty, hk, q⟩ := h
  cases r with
  | cons r1 rr =>
    cases rr with
    | cons r2 rr =>
      cases rr
      cases clsOf_rel rc r2
      exact isinst_ok I r1 ty hk fun tk => ⟨.bl b, H, I.tok _, rfl, q⟩
/-- isinstance(e, c) of a caught exception -/
inductive rIsiX (K : Frag) (xs : List V) (H : Hp) (Q : VK) : Prop
  | mk (x : _) (C : _) (c : _) (b : _) (cv : _) (_ : xs = [.ref x, c]) (_ : H x = some (.exc x C)) (_ : ErrC K C) (_ : clsOf c = some cv) (_ : kitOne K (.ref C) cv = some b) (_ : Q (.bl b) H) : rIsiX K xs H Q
theorem call_isiX : CallR X (.builtin "isinstance") (rIsiX X.K) := by
  intro pins s σ H xs us Q I r h
  obtain ⟨x, C, c, b, cv, rfl, hx, e, rc, hk, q⟩ := h
  cases r with
  | cons r1 rr =>
    cases rr with
    | cons r2 rr =>
      cases rr
      cases r1
      cases clsOf_rel rc r2
      exact isinst_exc I hx e hk fun tk => ⟨.bl b, H, I.tok _, rfl, q⟩
end

/-! ### a def whose exceptions are told -/
section
variable {P : Program} {w : World} {K : Frag} {mg : Str → Option Value} {base : Heap}
abbrev cxF (P : Program) (w : World) (K : Frag) (mg : Str → Option Value) (base : Heap) (cm : Bool) (N : List Str) (qual : Str) (scope : Scope) (f : Addr) (cd : Value) (A : Around) (outer : List Env) (s : Shared) (H : Hp) (E : XK) : Cx :=
  cxOf (CXF P w) cm P w K mg base N qual scope f cd A outer s H E
/-- THE RULE for a def -/
theorem Fun.okX {cm : Bool} {x qual : Str} {st : Stmt} {f : Addr} {fd : FuncData} {N ps : List Str} {k : Nat} {sp : Sp} (F : Fun K x qual st f fd) (S : FnScope N ps (defScope st)) (len : ∀ vs H Q E, sp vs H Q E → vs.length = ps.length)
    (hbody : ∀ (cdv : Value) (A : Around) (outer : List Env) (s : Shared) (H : Hp) (vs : List V) (Q : VK) (E : XK), Room cm k (A.deeper (envOfC qual (defScope st) s.heap.objs.size f cdv)) → sp vs H Q E →
      XOk (cxF P w K mg base cm N qual (defScope st) f cdv A outer s H E) (fun _ => E) →
      ∃ t, PSs (cxF P w K mg base cm N qual (defScope st) f cdv A outer s H E) (defBody st) t ∧ t { nx := fun _ H' => Q .non H', rt := Q } (start N vs) H) : FnOk P w K mg base (CXF P w) cm (k + 1) f fd ps sp := by
  obtain ⟨oc, od, kV, doc, pm, an, cdv, ct, osl, rfl, lk, hcd⟩ := F.ex
  exact fn_of lk hcd S len fun A outer s H vs Q E hr hsp => hbody cdv A outer s H vs Q E hr hsp xok_def
end
end L2

set_option Elab.async false
set_option linter.all false
set_option maxRecDepth 100000
set_option maxHeartbeats 4000000
namespace L2
open PySem PySem.Spec PyProof.Rows PySem.W PySem.Calls

theorem Room.loose {cm : Bool} {k : Nat} {A : Around} (r : Room cm k A) : Room false k A := ⟨(fun z => nomatch z), r.dp, r.un⟩
/-- a def of the text that keeps its promise -/
def IsDef (P : Program) (w : World) (K : Frag) (mg : Str → Option Value) (base : Heap) (cm : Bool) (k : Nat) (x : Str) (ps : List Str) (sp : Sp) : Prop :=
  ∃ f fd, FnOk P w K mg base (CXF P w) cm k f fd ps sp ∧ mg x = some (.ref f) ∧ keepIn K (.ref f) = true ∧ Binds K fd ps []
theorem isDef_mk {P : Program} {w : World} {K : Frag} {mg : Str → Option Value} {base : Heap} {cm : Bool} {k : Nat} {x y : Str} {ps : List Str} {sp : Sp} {st : Stmt} {f : Addr} {fd : FuncData} (F : Fun K x y st f fd) (hm : mg x = some (.ref f)) (b : Binds K fd ps [])
    (ok : FnOk P w K mg base (CXF P w) cm k f fd ps sp) : IsDef P w K mg base cm k x ps sp := ⟨f, fd, ok, hm, F.kp, b⟩
section
variable {X : Cx} {cm : Bool} {k : Nat} {x : Str} {ps : List Str} {sp : Sp} {E : St → XK} {e : Expr} {es : List Expr} {t : TA} {p pos : Pos}
/-- f(..) of a def of the text -/
theorem pe_def (D : IsDef X.prog X.w X.K X.mg X.base cm k x ps sp) (hr : Room cm k X.A) (hx : Passes (CXF X.prog X.w) X E) (ha : PA X (e :: es) t) (hg : Gl X x := by rfl) (hdb : (x == ("__debug__" : Str)) = false := by decide)
    (he : starEach (e :: es) X.env = (false, eval e X.env) :: starEach es X.env := by rfl) (hpl : (backTo pos (starEach es X.env)).any (·.1) = false := by rfl) : PE X (.Call (.Name x p) (e :: es) [] pos) (tCall sp [] E t) := by
  obtain ⟨f, fd, ok, hm, hk, hb⟩ := D
  exact pe_call ok hr hg hm hk hb .nil hx ha hdb he hpl
/-- a constant of the module -/
theorem pe_con' {v : V} (h : ∃ u, X.mg x = some u ∧ RelV v u) (hg : Gl X x := by rfl) (hd : (x == ("__debug__" : Str)) = false := by decide) : PE X (.Name x pos) (tC v) := by
  obtain ⟨u, h1, h2⟩ := h
  exact pe_glob hg h1 h2 hd
end
theorem gN_yes {i : Nat} {x : V} {σ : St} {H : Hp} {A B : St → Hp → Prop} (h : A (σ.set i (some x)) H) : gName i x σ H (fun σ2 H3 => tYes σ2 H3 (fun b H4 => if b = true then A σ2 H4 else B σ2 H4)) := by
  show if true = true then A (σ.set i (some x)) H else B (σ.set i (some x)) H
  exact iteT h
theorem le_line {n : Nat} (h : n ≤ 100000) : n ≤ sizeLine := Nat.le_trans h (by decide)
theorem lt_line {n : Nat} (h : n ≤ 100000) : n < sizeLine := Nat.lt_of_le_of_lt h (by decide)
/-- two statements with a word between them -/
def tCut (t u : TS) : TS := fun D σ H => ∃ Pm : St → Hp → Prop, t { D with nx := Pm } σ H ∧ ∀ σ' H', Pm σ' H' → u D σ' H'
theorem pss_cut {X : Cx} {st : Stmt} {rest : List Stmt} {t u : TS} (h1 : PS X st t) (h2 : PSs X rest u) : PSs X (st :: rest) (tCut t u) := by
  intro pins s σ H D I h
  obtain ⟨Pm, ht, hu⟩ := h
  refine wpAny_execs_cons (thn (h1 pins s σ H { D with nx := Pm } I ht) fun f s1 q => ?_)
  cases f with
  | next => obtain ⟨σ', H', I', p⟩ := q; exact h2 pins s1 σ' H' D I' (hu σ' H' p)
  | brk => exact q
  | cont => exact q
  | ret v => exact q
/-- all that stands stays -/
theorem Same.upd {H : Hp} {a : Addr} {o : HO} (h : H a = none) : Same H (upd H a o) := fun b u e => by rw [upd_ne (ne_of_none e h)]; exact e
theorem Same.upd2 {H H' : Hp} {a : Addr} {o : HO} (s : Same H H') (h : H a = none) : Same H (L2.upd H' a o) := fun b u e => by rw [upd_ne (ne_of_none e h)]; exact s b u e
end L2
namespace QF
open PySem L2
theorem on1 {P : List Value → Prop} (h : ∀ a, P [a]) : ∀ us : List Value, us.length = 1 → P us
  | [a], _ => h a
theorem on2 {P : List Value → Prop} (h : ∀ a b, P [a, b]) : ∀ us : List Value, us.length = 2 → P us
  | [a, b], _ => h a b
theorem on3 {P : List Value → Prop} (h : ∀ a b c, P [a, b, c]) : ∀ us : List Value, us.length = 3 → P us
  | [a, b, c], _ => h a b c
theorem on4 {P : List Value → Prop} (h : ∀ a b c d, P [a, b, c, d]) : ∀ us : List Value, us.length = 4 → P us
  | [a, b, c, d], _ => h a b c d
theorem on5 {P : List Value → Prop} (h : ∀ a b c d e, P [a, b, c, d, e]) : ∀ us : List Value, us.length = 5 → P us
  | [a, b, c, d, e], _ => h a b c d e
theorem on6 {P : List Value → Prop} (h : ∀ a b c d e f, P [a, b, c, d, e, f]) : ∀ us : List Value, us.length = 6 → P us
  | [a, b, c, d, e, f], _ => h a b c d e f
end QF

set_option Elab.async false
set_option linter.all false
set_option maxRecDepth 100000
set_option maxHeartbeats 4000000
namespace L2
open PySem PySem.Spec PyProof.Rows PySem.W PySem.Calls

/-! ### arguments that are no *xs -/
def notStar : Expr → Bool
  | .Starred _ _ => false
  | _ => true
theorem starEach_plain {e : Expr} {es : List Expr} {env : Env} (h : notStar e = true) : starEach (e :: es) env = (false, eval e env) :: starEach es env := by
  cases e <;> first | rfl | cases h
theorem pa_c {X : Cx} {e : Expr} {es : List Expr} {te : TE} {t : TA} (ha : PE X e te) (hr : PA X es t) (hn : notStar e = true := by rfl) : PA X (e :: es) (tCons te t) := pa_cons ha hr (starEach_plain hn)
/-! ### a def or method whose parameters may have defaults -/
structure FunD (K : Frag) (x qual : Str) (st : Stmt) (f : Addr) (fd : FuncData) : Prop where
  ex : ∃ (oc : Value) (od : Option Addr) (dV kV doc pm : Value) (an : Option Addr) (cdv ct : Value) (osl : Array (Option Value)),
    fd = fnOf x qual (defArgs st) (defBody st) (defScope st) dV kV doc pm an cdv ct ∧ K.lookup f = some ⟨oc, od, .func fd, osl⟩ ∧ codeIn K cdv qual = true
  kp : keepIn K (.ref f) = true
theorem funD_mk {K : Frag} {x qual : Str} {st : Stmt} {f : Addr} {oc : Value} {od an : Option Addr} {osl : Array (Option Value)} {dV kV doc pm cdv ct : Value} (l : K.lookup f = some ⟨oc, od, .func (fnOf x qual (defArgs st) (defBody st) (defScope st) dV kV doc pm an cdv ct), osl⟩)
    (c : codeIn K cdv qual = true) (k : keepIn K (.ref f) = true) : FunD K x qual st f (fnOf x qual (defArgs st) (defBody st) (defScope st) dV kV doc pm an cdv ct) := ⟨⟨oc, od, dV, kV, doc, pm, an, cdv, ct, osl, rfl, l, c⟩, k⟩
section
variable {P : Program} {w : World} {K : Frag} {mg : Str → Option Value} {base : Heap}
theorem FunD.okX {cm : Bool} {x qual : Str} {st : Stmt} {f : Addr} {fd : FuncData} {N ps : List Str} {k : Nat} {sp : Sp} (F : FunD K x qual st f fd) (S : FnScope N ps (defScope st)) (len : ∀ vs H Q E, sp vs H Q E → vs.length = ps.length)
    (hbody : ∀ (cdv : Value) (A : Around) (outer : List Env) (s : Shared) (H : Hp) (vs : List V) (Q : VK) (E : XK), Room cm k (A.deeper (envOfC qual (defScope st) s.heap.objs.size f cdv)) → sp vs H Q E →
      XOk (cxF P w K mg base cm N qual (defScope st) f cdv A outer s H E) (fun _ => E) →
      ∃ t, PSs (cxF P w K mg base cm N qual (defScope st) f cdv A outer s H E) (defBody st) t ∧ t { nx := fun _ H' => Q .non H', rt := Q } (start N vs) H) : FnOk P w K mg base (CXF P w) cm (k + 1) f fd ps sp := by
  obtain ⟨oc, od, dV, kV, doc, pm, an, cdv, ct, osl, rfl, lk, hcd⟩ := F.ex
  exact fn_of lk hcd S len fun A outer s H vs Q E hr hsp => hbody cdv A outer s H vs Q E hr hsp xok_def
end

/-! ### classes and methods of the text -/
/-- a method that keeps its promise -/
def IsMeth (P : Program) (w : World) (K : Frag) (mg : Str → Option Value) (base : Heap) (cm : Bool) (k : Nat) (C : Addr) (m : Str) (ps : List Str) (sp : Sp) : Prop :=
  ∃ f fd, FnOk P w K mg base (CXF P w) cm k f fd ps sp ∧ Meth K C m f ∧ Binds K fd ps [] ∧ Cls K C
/-- a class that is made: its __init__ keeps its promise; dvs: the defaults that fill up -/
def IsNew (P : Program) (w : World) (K : Frag) (mg : Str → Option Value) (base : Heap) (cm : Bool) (k : Nat) (x : Str) (C : Addr) (ps : List Str) (dvs : List V) (sp : Sp) : Prop :=
  ∃ f fd ds, FnOk P w K mg base (CXF P w) cm k f fd ps sp ∧ Mk K C f ∧ mg x = some (.ref C) ∧ Binds K fd ps ds ∧ Vals dvs ds
theorem isNew_mk {P : Program} {w : World} {K : Frag} {mg : Str → Option Value} {base : Heap} {cm : Bool} {k : Nat} {x : Str} {C f : Addr} {fd : FuncData} {ps : List Str} {dvs : List V} {ds : List Value} {sp : Sp} (h1 : FnOk P w K mg base (CXF P w) cm k f fd ps sp) (h2 : Mk K C f) (h3 : mg x = some (.ref C)) (h4 : Binds K fd ps ds) (h5 : Vals dvs ds) : IsNew P w K mg base cm k x C ps dvs sp := ⟨f, fd, ds, h1, h2, h3, h4, h5⟩
theorem isMeth_mk {P : Program} {w : World} {K : Frag} {mg : Str → Option Value} {base : Heap} {cm : Bool} {k : Nat} {m : Str} {C f : Addr} {fd : FuncData} {ps : List Str} {sp : Sp} (h1 : FnOk P w K mg base (CXF P w) cm k f fd ps sp) (h2 : Meth K C m f) (h3 : Binds K fd ps []) (h4 : Cls K C) : IsMeth P w K mg base cm k C m ps sp := ⟨f, fd, h1, h2, h3, h4⟩
section
variable {X : Cx} {cm : Bool} {k : Nat} {x m : Str} {ps : List Str} {sp : Sp} {E : St → XK} {e o : Expr} {es : List Expr} {t : TA} {to : TE} {p pos apos : Pos} {C : Addr} {dvs : List V}
theorem pe_newD (D : IsNew X.prog X.w X.K X.mg X.base cm k x C ps dvs sp) (hr : Room cm (k + 1) X.A) (hx : Passes (CXF X.prog X.w) X E) (ha : PA X (e :: es) t) (hg : Gl X x := by rfl) (hdb : (x == ("__debug__" : Str)) = false := by decide)
    (he : starEach (e :: es) X.env = (false, eval e X.env) :: starEach es X.env := by rfl) (hpl : (backTo pos (starEach es X.env)).any (·.1) = false := by rfl) : PE X (.Call (.Name x p) (e :: es) [] pos) (tMake C sp dvs E t) := by
  obtain ⟨f, fd, ds, ok, M, hm, hb, hd⟩ := D
  exact pe_make M ok hr hg hm hb hd hx ha hdb he hpl
theorem pe_methD {pl : Sem Bool} (ho : PE X o to) (D : IsMeth X.prog X.w X.K X.mg X.base cm k C m ps sp) (hr : Room cm k X.A) (hx : Passes (CXF X.prog X.w) X E) (ha : PA X (e :: es) t)
    (hst : starEach (e :: es) X.env = (false, eval e X.env) :: starEach es X.env := by rfl) (hpl : (backTo pos (starEach es X.env)).any (·.1) = false := by rfl)
    (ht : eval (.Call (.Attribute o m apos) (e :: es) [] pos) X.env = (do
      let ov ← eval o X.env
      standAt apos.atName
      let (f, first) ← holding [ov] (getMethod ov m pl)
      callWith pos f first (backTo pos (starEach (e :: es) X.env)) (backToKw pos (keywordEach [] X.env))) := by rfl) : PE X (.Call (.Attribute o m apos) (e :: es) [] pos) (tMeth C m sp [] E to t) := by
  obtain ⟨f, fd, ok, hm, hb, c⟩ := D
  exact pe_meth ho c hm ok hr hb .nil hx ha hst hpl ht
end

/-! ### the rules that speak of the text, with the text told -/
section
variable {X : Cx}
theorem pi_listK (K : Frag) {tg l : Expr} {tl : TE} (hl : PE X l tl) (h : X.K = K := by rfl) : PI X tg l (iList K tl) := h ▸ pi_list hl
theorem pe_fldK (K : Frag) {e : Expr} {f : Str} {pos : Pos} {ta : TE} (he : PE X e ta) (hb : attributeBase e f X.env (eval e X.env) = eval e X.env := by rfl) (h : X.K = K := by rfl) : PE X (.Attribute e f pos) (tFld K ta f) := h ▸ pe_fld he hb
theorem ps_fldK (K : Frag) {o value : Expr} {f : Str} {pos pos' : Pos} {ta tv : TE} (ha : PE X o ta) (hv : PE X value tv) (hs : swapsWith value (some (.Attribute o f pos')) pos.line X.env = pure false := by rfl) (h : X.K = K := by rfl) : PS X (.Assign [.Attribute o f pos'] value pos) (sFld K ta tv f) := h ▸ ps_fld ha hv hs
theorem ix_listK (K : Frag) (h : X.K = K := by rfl) : IxR X (rIxL K) := h ▸ ix_list
theorem ix_tupK (K : Frag) (h : X.K = K := by rfl) : IxR X (rIxT K) := h ▸ ix_tup
theorem sl_listK (K : Frag) (h : X.K = K := by rfl) : SlR X (rSlL K) := h ▸ sl_list
inductive rLenS (K : Frag) (xs : List V) (H : Hp) (Q : VK) : Prop
  | mk (p : _) (ys : _) (_ : xs = [.ref p]) (_ : (SqL K H p ys ∨ SqT K H p ys)) (_ : Q (.int ys.length) H) : rLenS K xs H Q
theorem call_len_seqK (K : Frag) (h : X.K = K := by rfl) : CallR X (.builtin "len") (rLenS K) := by
  subst h
  intro pins s σ H xs us Q I r hq
  obtain ⟨p, ys, e, d, q⟩ := hq
  exact call_len_seq pins s σ H xs us Q I r ⟨p, ys, e, d, q⟩
inductive rListOf (K : Frag) (xs : List V) (H : Hp) (Q : VK) : Prop
  | mk (p : _) (ys : _) (_ : xs = [.ref p]) (_ : (SqL K H p ys ∨ SqT K H p ys)) (_ : ∀ l, H l = none → Q (.ref l) (upd H l (.lst ys))) : rListOf K xs H Q
theorem call_list_ofK (K : Frag) (h : X.K = K := by rfl) : CallR X (.type "list") (rListOf K) := by
  subst h
  intro pins s σ H xs us Q I r hq
  obtain ⟨p, ys, e, d, q⟩ := hq
  exact call_list_of pins s σ H xs us Q I r ⟨p, ys, e, d, q⟩
theorem call_allK (K : Frag) (hc : X.calm = true) (h : X.K = K := by rfl) : CallR X (.builtin "all") (rAll K fun bs => bs.all id) := h ▸ call_all hc
theorem call_isiK (K : Frag) (h : X.K = K := by rfl) : CallR X (.builtin "isinstance") (rIsi K) := h ▸ call_isi
theorem call_isiXK (K : Frag) (h : X.K = K := by rfl) : CallR X (.builtin "isinstance") (rIsiX K) := h ▸ call_isiX
theorem pg_tupK (K : Frag) {es : List Expr} {k : Nat} {t : TGs} {n : Nat} {pos : Pos} (hc : X.calm = true) (h : PGs X es t)
    (hn : (assignEach es X.env).length = n := by rfl) (hst : (assignEach es X.env).findIdx? (·.1) = none := by rfl) (hK : X.K = K := by rfl) : PG X (.Tuple es k pos) (gTup K n t) := hK ▸ pg_tup hc h hn hst
theorem pe_bmK (K : Frag) {T : String} {name : Str} {id : String} {r : V → List V → Hp → VK → Prop} {o e : Expr} {es : List Expr} {apos cpos : Pos} {to : TE} {t : TA} (pa : PlainAttrs T) (slot : Slot T name id) (hty : typeOf (.builtin id) = pure (.type "method_descriptor")) (hm : MtR X id r) (ho : PE X o to) (ha : PA X (e :: es) t)
    (hbase : attributeBase o name X.env (eval o X.env) = eval o X.env := by rfl)
    (hfew : ((backTo cpos (starEach (e :: es) X.env)).all (fun x => !x.1) && (backToKw cpos (keywordEach [] X.env)).all (fun x => x.1.isSome)
      && decide ((e :: es).length + ([] : List Keyword).length + (if ([] : List Keyword).isEmpty then 0 else 1) < 30)) = true := by rfl)
    (hline : (apos.endLine == cpos.line) = true := by rfl) (hs : starEach (e :: es) X.env = (false, eval e X.env) :: starEach es X.env := by rfl) (hplain : (backTo cpos (starEach es X.env)).any (·.1) = false := by rfl) (hK : X.K = K := by rfl) :
    PE X (.Call (.Attribute o name apos) (e :: es) [] cpos) (tBM K T r to t) := hK ▸ pe_bm pa slot hty hm ho ha hbase hfew hline hs hplain
end

/-! ### xs.count(y), xs.index(y) of flat items -/
theorem countP_eqU {x : V} : ∀ {xs : List V} {us : List Value}, Vals xs us → xs.all flatV = true → us.countP (eqU x) = xs.countP fun y => eqV y x
  | _, _, .nil, _ => rfl
  | y :: xs, u :: us, .cons r t, f => by
    rw [List.all_cons, Bool.and_eq_true] at f
    rw [List.countP_cons, List.countP_cons, countP_eqU t f.2, eqU_of r f.1]
theorem get_eqU {x : V} {xs : List V} {us : List Value} (r : Vals xs us) (f : xs.all flatV = true) (j : Nat) (h1 : j < xs.length) (h2 : j < us.length) : eqU x us[j] = eqV xs[j] x := by
  obtain ⟨u, e, ru⟩ := r.get (i := j) (x := xs[j]) (by simp [h1])
  have e' : us[j] = u := by
    rw [List.getElem?_eq_getElem h2] at e
    exact Option.some.inj e
  rw [e']
  exact eqU_of ru (List.all_eq_true.mp f _ (List.getElem_mem h1))
section
variable {X : Cx}
def rCount : V → List V → Hp → VK → Prop := fun x vs H Q => ∃ l xs y, x = .ref l ∧ vs = [y] ∧ H l = some (.lst xs) ∧ flatV y = true ∧ xs.all flatV = true ∧ Q (.int ((xs.countP fun z => eqV z y : Nat) : Int)) H
theorem mt_count : MtM X "list.count" rCount := by
  intro pins s σ H x vs v us Q I rx rv h
  obtain ⟨l, xs, y, rfl, rfl, hH, fy, fx, q⟩ := h
  cases rx
  obtain ⟨u, rfl, ru⟩ := rv.one
  obtain ⟨z, its, n, r, hl, e⟩ := I.lstM hH
  refine call_meets F.slot_list_count ⟨_, e, rfl⟩ F.entry_list_count (F.args_list_count_2 _ _) (SeqAt.list_countAt l its.toArray n _ _ u (eqU y)) ⟨e, fun w hw => mem_eqAt ru fy r fx w (by simpa using hw), ?_⟩
  have ec := countP_eqU (x := y) r fx
  refine ⟨.int ((xs.countP fun z => eqV z y : Nat) : Int), H, I.tok _, ⟨s.toks, ?_⟩, q⟩
  rw [← ec]
def rIndex : V → List V → Hp → VK → Prop := fun x vs H Q => ∃ l xs y j, x = .ref l ∧ vs = [y] ∧ H l = some (.lst xs) ∧ flatV y = true ∧ xs.all flatV = true ∧ (∃ hj : j < xs.length, eqV xs[j] y = true) ∧ (∀ m (hm : m < xs.length), m < j → eqV xs[m] y = false) ∧ Q (.int (j : Nat)) H
theorem mt_index : MtM X "list.index" rIndex := by
  intro pins s σ H x vs v us Q I rx rv h
  obtain ⟨l, xs, y, j, rfl, rfl, hH, fy, fx, ⟨hj, hit⟩, hno, q⟩ := h
  cases rx
  obtain ⟨u, rfl, ru⟩ := rv.one
  obtain ⟨z, its, n, r, hl, e⟩ := I.lstM hH
  have hlen := r.length
  have hj' : j < its.length := by omega
  have hline := line63
  refine call_meets F.slot_list_index ⟨_, e, rfl⟩ F.entry_list_index (F.args_list_index_2 _ _) (SeqAt.list_indexAt l its.toArray n _ _ u (eqU y) j (by simpa using hj') (by omega) (by
    have := get_eqU (x := y) r fx j hj hj'
    simp only [List.getElem_toArray]
    rw [this]; exact hit) fun m hm hlt => by
      have hm' : m < its.length := by simpa using hm
      have := get_eqU (x := y) r fx m (by omega) hm'
      simp only [List.getElem_toArray]
      rw [this]; exact hno m (by omega) hlt) ⟨e, fun w hw => mem_eqAt ru fy r fx w (by simpa using hw), ?_⟩
  exact ⟨.int (j : Nat), H, I.tok _, ⟨_, rfl⟩, q⟩
end
end L2

set_option Elab.async false
set_option linter.all false
set_option maxRecDepth 100000
set_option maxHeartbeats 4000000
/-! what the program and the laws speak of -/
namespace QF
open PySem L2
structure TB (mg : Str → Option Value) : Prop where
  n_len : mg "len" = none
  n_range : mg "range" = none
  n_isinstance : mg "isinstance" = none
  n_int : mg "int" = none
  n_bool : mg "bool" = none
  n_str : mg "str" = none
  n_list : mg "list" = none
  n_tuple : mg "tuple" = none
  n_dict : mg "dict" = none
  n_all : mg "all" = none
  n_any : mg "any" = none
  n_min : mg "min" = none
  n_max : mg "max" = none
  n_enumerate : mg "enumerate" = none
  n_ValueError : mg "ValueError" = none
def Con (mg : Str → Option Value) (x : Str) (v : V) : Prop := ∃ u, mg x = some u ∧ RelV v u
/-! cells of the script -/
def cell (ns : List Int) (k : Int) : Int := ns.getD k.toNat 0
theorem cell_at {ns : List Int} {k : Int} (h0 : 0 ≤ k) (h : k < (ns.length : Int)) : atI (ns.map V.int) k = some (.int (cell ns k)) := by
  obtain ⟨j, rfl⟩ := Int.eq_ofNat_of_zero_le h0
  have hj : j < ns.length := by omega
  refine atI_nat ?_
  simp [cell, hj]
theorem cell_out {ns : List Int} {k : Int} (h0 : 0 ≤ k) (h : ¬ k < (ns.length : Int)) : cell ns k = 0 := by
  have hj : ns.length ≤ k.toNat := by omega
  simp [cell, hj]
/-! letters and words -/
def low (c : Nat) : Bool := decide (97 ≤ c) && decide (c ≤ 122)
def isW (z : Str) : Bool := decide (1 ≤ z.length) && decide (z.length ≤ 12) && z.cps.toList.all low
theorem lt1 (a b : Nat) : (([a] : List Nat) < [b]) ↔ a < b := by
  constructor
  · intro h
    cases h with
    | rel h => exact h
    | cons h => cases h
  · intro h; exact .rel h
theorem le_a (c : Nat) : (!decide (([c] : List Nat) < (Str.ofString "a").cps.toList)) = decide (97 ≤ c) := by
  have e : (Str.ofString "a").cps.toList = [97] := by decide +kernel
  rw [e, Bool.eq_iff_iff]
  simp only [Bool.not_eq_true', decide_eq_false_iff_not, decide_eq_true_eq, lt1]
  omega
theorem le_z (c : Nat) : (!decide ((Str.ofString "z").cps.toList < ([c] : List Nat))) = decide (c ≤ 122) := by
  have e : (Str.ofString "z").cps.toList = [122] := by decide +kernel
  rw [e, Bool.eq_iff_iff]
  simp only [Bool.not_eq_true', decide_eq_false_iff_not, decide_eq_true_eq, lt1]
  omega
theorem len_app (x y : Str) : (x ++ y).length = x.length + y.length := by
  show (x.cps ++ y.cps).size = _
  rw [Array.size_append]; rfl
/-! promises of the small defs -/
inductive sp_at (K : W.Frag) (vs : List V) (H : Hp) (Q : VK) (u3 : XK) : Prop
  | mk (a : _) (ns : _) (k : _) (_ : vs = [.ref a, .int k]) (_ : SqL K H a (ns.map V.int)) (_ : 0 ≤ k) (_ : Q (.int (cell ns k)) H) : sp_at K vs H Q u3
inductive sp_whole (vs : List V) (H : Hp) (Q : VK) (u3 : XK) : Prop
  | mk (i : _) (_ : vs = [.int i]) (_ : Q (.bl true) H) : sp_whole  vs H Q u3
inductive sp_low (vs : List V) (H : Hp) (Q : VK) (u3 : XK) : Prop
  | mk (c : Nat) (_ : vs = [.str ⟨#[c]⟩]) (_ : Q (.bl (low c)) H) : sp_low  vs H Q u3
inductive sp_word (vs : List V) (H : Hp) (Q : VK) (u3 : XK) : Prop
  | mk (z : Str) (_ : vs = [.str z]) (_ : z.length ≤ 100000) (_ : ∀ H', Same H H' → Q (.bl (isW z)) H') : sp_word  vs H Q u3
inductive sp_between (vs : List V) (H : Hp) (Q : VK) (u3 : XK) : Prop
  | mk (l n h : Int) (_ : vs = [.int l, .int n, .int h]) (_ : Q (.bl (decide (l ≤ n) && decide (n ≤ h))) H) : sp_between  vs H Q u3
def spLaw (K : W.Frag) : Sp := fun vs H Q _ => ∃ (a : Addr) (ns : List Int), vs = [.ref a] ∧ SqL K H a (ns.map V.int) ∧ ns.length ≤ 63 ∧ ∀ H', Q (.bl true) H'
/-! error classes -/
structure Er (K : W.Frag) (mg : Str → Option Value) (x : Str) (C : Addr) : Prop where
  m : mg x = some (.ref C)
  e : ErrC K C
/-! numbers of the terms -/
def inR (l n h : Int) : Bool := decide (l ≤ n) && decide (n ≤ h)
inductive sp_number (C : Addr) (vs : List V) (H : Hp) (Q : VK) (E : XK) : Prop
  | mk (nm : Str) (n l h : Int) (_ : vs = [.str nm, .int n, .int l, .int h]) (_ : nm.length ≤ 20) (_ : (0 ≤ l ∧ l ≤ 1)) (_ : (h = 100 ∨ h = 999999)) (_ : (if inR l n h = true then Q .non H else E (.ref C) none H)) : sp_number C vs H Q E
end QF

set_option Elab.async false
set_option linter.all false
set_option maxRecDepth 100000
set_option maxHeartbeats 4000000
namespace QF
open PySem L2
/-- the numbers that the program writes into its refusals -/
theorem told_int {i : Int} (h : i = 0 ∨ i = 1 ∨ i = 12 ∨ i = 40 ∨ i = 60 ∨ i = 100 ∨ i = 999999) : i.natAbs.log2 < 1920 ∧ (Str.ofString (toString i)).length ≤ 6 := by
  rcases h with rfl | rfl | rfl | rfl | rfl | rfl | rfl <;> exact ⟨by decide +kernel, by decide +kernel⟩
theorem len_empty : (Str.empty).length = 0 := by decide +kernel
theorem one_line {x : V} : [x].length ≤ sizeLine := le_line (by simp)
/-! near forms -/
def formOk (x y : Str) (p : Int) : Bool := isW x && isW y && !(x == y) && inR 0 p 999999
inductive sp_form (C : Addr) (vs : List V) (H : Hp) (Q : VK) (E : XK) : Prop
  | mk (x y : Str) (p : Int) (_ : vs = [.str x, .str y, .int p]) (_ : x.length ≤ 100000) (_ : y.length ≤ 100000) (_ : (if formOk x y p = true then ∀ H', Same H H' → Q .non H' else ∀ H', Same H H' → E (.ref C) none H')) : sp_form C vs H Q E
abbrev Form := Str × Str × Int
def trip (f : Form) : List V := [.str f.1, .str f.2.1, .int f.2.2]
def key2 (f : Form) : List Key := [.inr f.1, .inr f.2.1]
def kvOf (f : Form) : List Key × V := (key2 f, .int f.2.2)
def fOk (f : Form) : Bool := formOk f.1 f.2.1 f.2.2
def Trips (H : Hp) (xs : List V) (fs : List Form) : Prop := xs.length = fs.length ∧ ∀ (i : Nat) (f : Form), fs[i]? = some f → ∃ t, xs[i]? = some (V.ref t) ∧ H t = some (.tup (trip f))
def goodNear (fs : List Form) : Bool := decide (fs.length ≤ 60) && fs.all fOk && decide ((fs.map key2).Nodup)
def Short (fs : List Form) : Prop := fs.length ≤ 1000 ∧ ∀ f ∈ fs, f.1.length ≤ 100000 ∧ f.2.1.length ≤ 100000
theorem Trips.same {H H' : Hp} {xs : List V} {fs : List Form} (t : Trips H xs fs) (s : Same H H') : Trips H' xs fs := ⟨t.1, fun i f e => let ⟨b, h1, h2⟩ := t.2 i f e; ⟨b, h1, s _ _ h2⟩⟩
theorem Trips.nil {H : Hp} : Trips H [] [] := ⟨rfl, fun i f e => by simp at e⟩
inductive sp_prices (C : Addr) (vs : List V) (H : Hp) (Q : VK) (E : XK) : Prop
  | mk (a : Addr) (xs : List V) (fs : List Form) (_ : vs = [.ref a]) (_ : H a = some (.lst xs)) (_ : Trips H xs fs) (_ : Short fs) (_ : (if goodNear fs = true then ∀ H' d, Same H H' → H d = none → H' d = some (.dT (fs.map kvOf)) → Q (.ref d) H' else ∀ H', Same H H' → E (.ref C) none H')) : sp_prices C vs H Q E
theorem kv_keys (fs : List Form) : (fs.map kvOf).map (·.1) = fs.map key2 := by rw [List.map_map]; rfl
/-- a form that is no good makes the list no good -/
theorem bad_form {fs : List Form} {i : Nat} {f : Form} (e : fs[i]? = some f) (h : fOk f = false) : goodNear fs = false := by
  have hm : f ∈ fs := List.mem_of_getElem? e
  have : fs.all fOk = false := by
    rw [Bool.eq_false_iff]
    intro z
    rw [List.all_eq_true] at z
    rw [z f hm] at h
    cases h
  simp [goodNear, this]
theorem bad_twice {fs : List Form} {i : Nat} {f : Form} (e : fs[i]? = some f) (h : key2 f ∈ (fs.take i).map key2) : goodNear fs = false := by
  have : ¬ (fs.map key2).Nodup := fun z => by
    obtain ⟨hi, e'⟩ := List.getElem?_eq_some_iff.mp e
    have e2 : fs = fs.take i ++ f :: fs.drop (i + 1) := by
      rw [← e', List.getElem_cons_drop, List.take_append_drop]
    rw [e2, List.map_append, List.map_cons, List.nodup_append] at z
    exact z.2.2 _ h _ (List.mem_cons_self) rfl
  simp [goodNear, this]
theorem good_step {fs : List Form} {i : Nat} {f : Form} (e : fs[i]? = some f) : (fs.take (i + 1)).map kvOf = (fs.take i).map kvOf ++ [kvOf f] := by
  rw [List.take_succ, e, List.map_append]
  rfl
theorem kv_no {fs : List Form} {k : List Key} (h : valV (fs.map kvOf) k = none) : k ∉ fs.map key2 := by
  have := valV_not h
  rwa [kv_keys] at this
theorem kv_yes {fs : List Form} {k : List Key} {v : V} (h : valV (fs.map kvOf) k = some v) : k ∈ fs.map key2 := by
  have := valV_in h
  rwa [kv_keys] at this
/-! terms -/
structure TermsC (K : W.Frag) (C : Addr) : Prop where
  cl : Cls K C
  same : NoAttr K C "same"
  out : NoAttr K C "out"
  into : NoAttr K C "into"
  least : NoAttr K C "least"
  part : NoAttr K C "part"
  near : NoAttr K C "near"
  prices : NoAttr K C "prices"
/-- the numbers of terms -/
structure Nums where
  same : Int
  out : Int
  into : Int
  least : Int
  part : Int
def okNums (n : Nums) : Bool := inR 1 n.same 999999 && inR 0 n.out 999999 && inR 0 n.into 999999 && inR 1 n.least 999999 && inR 1 n.part 100
def flds (n : Nums) (l d : Addr) : List (Str × V) := [("same", .int n.same), ("out", .int n.out), ("into", .int n.into), ("least", .int n.least), ("part", .int n.part), ("near", .ref l), ("prices", .ref d)]
def flds5 (n : Nums) : List (Str × V) := [("same", .int n.same), ("out", .int n.out), ("into", .int n.into), ("least", .int n.least), ("part", .int n.part)]
def SameBut (x : Addr) (H H' : Hp) : Prop := ∀ b u, b ≠ x → H b = some u → H' b = some u
/-- terms at x -/
structure TermsAt (H : Hp) (C x : Addr) (n : Nums) (fs : List Form) (dx l d : Addr) (xs : List V) : Prop where
  ob : H x = some (.ins C dx (flds n l d))
  own : H dx = some (.own x)
  li : H l = some (.lst xs)
  tr : Trips H xs fs
  di : H d = some (.dT (fs.map kvOf))
def nearV (H : Hp) (v : V) (xs : List V) (fs : List Form) : Prop := (v = .non ∧ xs = [] ∧ fs = []) ∨ ∃ a, v = .ref a ∧ H a = some (.lst xs) ∧ Trips H xs fs
inductive sp_init (C CT CN : Addr) (vs : List V) (H : Hp) (Q : VK) (E : XK) : Prop
  | mk (x dx : Addr) (n : Nums) (nv : V) (xs : List V) (fs : List Form) (_ : vs = [.ref x, .int n.same, .int n.out, .int n.into, .int n.least, .int n.part, nv]) (_ : H x = some (.ins C dx [])) (_ : H dx = some (.own x)) (_ : nearV H nv xs fs) (_ : Short fs) (_ : (if okNums n = true then (if goodNear fs = true then ∀ H' l d, SameBut x H H' → TermsAt H' C x n fs dx l d xs → H l = none → H d = none → Q .non H' else ∀ H', SameBut x H H' → E (.ref CN) none H') else ∀ H', SameBut x H H' → E (.ref CT) none H')) : sp_init C CT CN vs H Q E
theorem put5 (n : Nums) : putF "part" (.int n.part) (putF "least" (.int n.least) (putF "into" (.int n.into) (putF "out" (.int n.out) (putF "same" (.int n.same) [])))) = flds5 n := by kernel_rfl
theorem put7 (n : Nums) (l d : Addr) : putF "prices" (.ref d) (putF "near" (.ref l) (flds5 n)) = flds n l d := by kernel_rfl
theorem near5 (n : Nums) (l : Addr) : (putF "near" (.ref l) (flds5 n)).lookup ("near" : Str) = some (V.ref l) := by kernel_rfl
theorem SameBut.refl {x : Addr} {H : Hp} : SameBut x H H := fun _ _ _ h => h
theorem SameBut.upd {x : Addr} {H H' : Hp} {o : HO} (s : SameBut x H H') : SameBut x H (upd H' x o) := fun b u n h => by rw [upd_ne n]; exact s b u n h
theorem SameBut.same {x : Addr} {H H' H2 : Hp} (s : SameBut x H H') (t : Same H' H2) : SameBut x H H2 := fun b u n h => t b u (s b u n h)
theorem SameBut.laid {x a : Addr} {H H' : Hp} {o : HO} (s : SameBut x H H') (h : H a = none) : SameBut x H (L2.upd H' a o) := fun b u n e => by rw [upd_ne (ne_of_none e h)]; exact s b u n e
theorem SameBut.free {x l : Addr} {H H' : Hp} {o : HO} (s : SameBut x H H') (hx : H' x = some o) (h : H' l = none) : H l = none := by
  cases e : H l with
  | none => rfl
  | some u =>
    have n : l ≠ x := fun z => by rw [z, hx] at h; cases h
    rw [s l u n e] at h; cases h
theorem Trips.but {x : Addr} {H H' : Hp} {xs : List V} {fs : List Form} {C dx : Addr} {gs : List (Str × V)} (t : Trips H xs fs) (s : SameBut x H H') (hx : H x = some (.ins C dx gs)) : Trips H' xs fs :=
  ⟨t.1, fun i f e => let ⟨b, h1, h2⟩ := t.2 i f e; ⟨b, h1, s _ _ (fun z => by rw [z, hx] at h2; cases h2) h2⟩⟩
/-! which refusal it was -/
def Fits (K : W.Frag) (C : Addr) (Ds : List Addr) (j : Nat) : Prop := (∀ (i : Nat) (D : Addr), Ds[i]? = some D → W.kitOne K (.ref C) (.ref D) = some (decide (i = j))) ∧ W.kitOne K (.ref C) (.type "ValueError") = some true
def fl (j : Nat) : List V := [.bl (decide (0 = j)), .bl (decide (1 = j)), .bl (decide (2 = j)), .bl (decide (3 = j)), .bl (decide (4 = j)), .bl (decide (5 = j)), .bl (decide (6 = j)), .bl (decide (7 = j)), .bl (decide (8 = j)), .bl (decide (9 = j)), .bl (decide (10 = j)), .bl (decide (11 = j)), .bl (decide (12 = j)), .bl (decide (13 = j))]
def kinds : List Str := ["word", "book", "terms", "near", "way", "name", "year", "taken", "full", "many", "no book", "no finding", "left", "search", "another"]
def kindOf (j : Nat) : Str := kinds.getD j ""
theorem fl_flat (j : Nat) : (fl j).all flatV = true := rfl
theorem fl_count {j : Nat} (h : j < 14) : (fl j).countP (fun z => eqV z (.bl true)) = 1 := by
  have : ∀ j < 14, (fl j).countP (fun z => eqV z (.bl true)) = 1 := by decide
  exact this j h
theorem fl_at {j : Nat} (h : j < 14) : ∃ hj : j < (fl j).length, eqV (fl j)[j] (.bl true) = true := by
  have : ∀ j (h : j < 14), eqV ((fl j)[j]'h) (.bl true) = true := by decide
  exact ⟨h, this j h⟩
theorem fl_no {j : Nat} (h : j < 14) : ∀ m (hm : m < (fl j).length), m < j → eqV (fl j)[m] (.bl true) = false := by
  have : ∀ j (h : j < 14), ∀ m (hm : m < 14), m < j → eqV ((fl j)[m]'hm) (.bl true) = false := by decide
  exact fun m hm hl => this j h m hm hl
theorem kind_at {j : Nat} (h : j < 14) : atI (kinds.map V.str) (j : Int) = some (.str (kindOf j)) := by
  refine atI_nat ?_
  have hk : kinds.length = 15 := rfl
  have : j < kinds.length := by omega
  rw [List.getElem?_map, List.getElem?_eq_getElem this]
  simp [kindOf, this]
inductive sp_kind (K : W.Frag) (Ds : List Addr) (vs : List V) (H : Hp) (Q : VK) (u3 : XK) : Prop
  | mk (x C : Addr) (j : Nat) (_ : vs = [.ref x]) (_ : H x = some (.exc x C)) (_ : ErrC K C) (_ : j < 14) (_ : Fits K C Ds j) (_ : ∀ H', Same H H' → Q (.str (kindOf j)) H') : sp_kind K Ds vs H Q u3
/-- an item of a list of whole numbers -/
theorem int_at (is : List Int) {i : Int} (h0 : 0 ≤ i) (h : i < (is.length : Int)) : ∃ m, m ∈ is ∧ atI (is.map V.int) i = some (.int m) := by
  obtain ⟨j, rfl⟩ := Int.eq_ofNat_of_zero_le h0
  have hj : j < is.length := by omega
  exact ⟨is[j], List.getElem_mem hj, atI_nat (by simp [hj])⟩
theorem l_same (n : Nums) (l d : Addr) : (flds n l d).lookup ("same" : Str) = some (V.int n.same) := by kernel_rfl
theorem l_out (n : Nums) (l d : Addr) : (flds n l d).lookup ("out" : Str) = some (V.int n.out) := by kernel_rfl
theorem l_into (n : Nums) (l d : Addr) : (flds n l d).lookup ("into" : Str) = some (V.int n.into) := by kernel_rfl
theorem l_prices (n : Nums) (l d : Addr) : (flds n l d).lookup ("prices" : Str) = some (V.ref d) := by kernel_rfl
theorem l_pair_worth (n : Nums) (l d : Addr) : (flds n l d).lookup ("pair_worth" : Str) = none := by kernel_rfl
theorem Fits.mk {K : W.Frag} {C D0 D1 D2 D3 D4 D5 D6 D7 D8 D9 D10 D11 D12 D13 : Addr} {j : Nat} (h0 : W.kitOne K (.ref C) (.ref D0) = some (decide (0 = j))) (h1 : W.kitOne K (.ref C) (.ref D1) = some (decide (1 = j))) (h2 : W.kitOne K (.ref C) (.ref D2) = some (decide (2 = j))) (h3 : W.kitOne K (.ref C) (.ref D3) = some (decide (3 = j))) (h4 : W.kitOne K (.ref C) (.ref D4) = some (decide (4 = j))) (h5 : W.kitOne K (.ref C) (.ref D5) = some (decide (5 = j))) (h6 : W.kitOne K (.ref C) (.ref D6) = some (decide (6 = j))) (h7 : W.kitOne K (.ref C) (.ref D7) = some (decide (7 = j))) (h8 : W.kitOne K (.ref C) (.ref D8) = some (decide (8 = j))) (h9 : W.kitOne K (.ref C) (.ref D9) = some (decide (9 = j))) (h10 : W.kitOne K (.ref C) (.ref D10) = some (decide (10 = j))) (h11 : W.kitOne K (.ref C) (.ref D11) = some (decide (11 = j))) (h12 : W.kitOne K (.ref C) (.ref D12) = some (decide (12 = j))) (h13 : W.kitOne K (.ref C) (.ref D13) = some (decide (13 = j))) (hv : W.kitOne K (.ref C) (.type "ValueError") = some true) : Fits K C [D0, D1, D2, D3, D4, D5, D6, D7, D8, D9, D10, D11, D12, D13] j := by
  refine ⟨fun i D e => ?_, hv⟩
  match i, e with
  | 0, e => cases e; exact h0
  | 1, e => cases e; exact h1
  | 2, e => cases e; exact h2
  | 3, e => cases e; exact h3
  | 4, e => cases e; exact h4
  | 5, e => cases e; exact h5
  | 6, e => cases e; exact h6
  | 7, e => cases e; exact h7
  | 8, e => cases e; exact h8
  | 9, e => cases e; exact h9
  | 10, e => cases e; exact h10
  | 11, e => cases e; exact h11
  | 12, e => cases e; exact h12
  | 13, e => cases e; exact h13
  | n + 14, e => simp at e
end QF

set_option Elab.async false
set_option linter.all false
set_option maxRecDepth 100000
set_option maxHeartbeats 4000000
namespace L2
open PySem PySem.Spec PyProof.Rows PySem.W PySem.Calls
section
variable {X : Cx}
/-- xs != [] -/
inductive rNeN (K : Frag) (x : V) (y : V) (H : Hp) (Q : VK) : Prop
  | mk (p : _) (q : _) (xs : _) (_ : x = .ref p) (_ : y = .ref q) (_ : SqL K H p xs) (_ : SqL K H q []) (_ : Q (.bl (!xs.isEmpty)) H) : rNeN K x y H Q
theorem op_ne_nilK (K : Frag) (hu : X.A.units < cLine) (hK : X.K = K := by rfl) : OpR X (compareOp .NotEq) (rNeN K) := by
  subst hK
  intro pins s σ H x y v u Q I rx ry h
  obtain ⟨p, q, xs, rfl, rfl, hp, hq, k⟩ := h
  cases rx
  cases ry
  obtain ⟨its, r, pl, hz⟩ := I.list hp
  obtain ⟨its2, r2, pl2, hz2⟩ := I.list hq
  cases r2
  obtain ⟨⟨cls, dd, data, sl⟩, ho, hc, n, hd⟩ := id pl.isList
  obtain ⟨⟨cls2, dd2, data2, sl2⟩, ho2, hc2, n2, hd2⟩ := id pl2.isList
  simp only at hc hd hc2 hd2
  subst hc hd hc2 hd2
  by_cases e : its = []
  · subst e
    cases r
    refine richCompare_meets_room (op := .NotEq) ⟨_, ho, rfl⟩ ⟨_, ho2, rfl⟩ F.slot_list_ne F.entry_list_ne (F.args_list_ne_2 _ _) (SeqAt.list_neAt p q #[] #[] n n2 dd dd2 sl sl2 rfl (fun _ => true)) ⟨ho, ho2, fun j h1 _ => absurd h1 (by simp), ?_⟩ hu
    exact ⟨(fun x => nomatch x), .bl false, H, I, rfl, k⟩
  · have hx : xs ≠ [] := fun z => by subst z; cases r; exact e rfl
    have hsz : (its.toArray.size != (#[] : Array Value).size) = true := by simpa using e
    refine richCompare_meets_room (op := .NotEq) ⟨_, ho, rfl⟩ ⟨_, ho2, rfl⟩ F.slot_list_ne F.entry_list_ne (F.args_list_ne_2 _ _) (SeqAt.list_ne_lengthsAt p q its.toArray #[] n n2 dd dd2 sl sl2 hsz) ⟨ho, ho2, ?_⟩ hu
    have : (!xs.isEmpty) = true := by simpa using hx
    rw [this] at k
    exact ⟨(fun x => nomatch x), .bl true, H, I, rfl, k⟩
end
end L2
namespace QF
open PySem L2
theorem at0 {α : Type} {xs : List α} {i : Nat} {v : α} (h : xs[i]? = some v) : atI xs (0 + (i : Int)) = some v := by
  rw [Int.zero_add]; exact atI_nat h
/-! what pairs are worth -/
def priceOf (fs : List Form) (x y : Str) : Option Int := (fs.find? fun f => decide (f.1 = x ∧ f.2.1 = y)).map (·.2.2)
def pairW (same : Int) (fs : List Form) (x y : Str) : Option Int := if x = y then some same else (priceOf fs x y).map (same - ·)
def optV : Option Int → V
  | none => .non
  | some i => .int i
theorem key2_eq (f : Form) (x y : Str) : key2 f = [.inr x, .inr y] ↔ f.1 = x ∧ f.2.1 = y := by simp [key2]
theorem val_price (x y : Str) : ∀ fs : List Form, valV (fs.map kvOf) [.inr x, .inr y] = (priceOf fs x y).map V.int
  | [] => rfl
  | f :: r => by
    rw [List.map_cons]
    by_cases h : key2 f = [.inr x, .inr y]
    · have h' := (key2_eq f x y).mp h
      rw [valV_pos (show (kvOf f).1 = _ from h)]
      simp [priceOf, List.find?_cons, h'.1, h'.2, kvOf]
    · have h' : ¬ (f.1 = x ∧ f.2.1 = y) := fun z => h ((key2_eq f x y).mpr z)
      rw [valV_neg (show ¬ (kvOf f).1 = _ from h), val_price x y r]
      simp [priceOf, List.find?_cons, h']
inductive sp_pair (C : Addr) (vs : List V) (H : Hp) (Q : VK) (u3 : XK) : Prop
  | mk (t : Addr) (x y : Str) (n : Nums) (fs : List Form) (dx l d : Addr) (xs : List V) (_ : vs = [.ref t, .str x, .str y]) (_ : TermsAt H C t n fs dx l d xs) (_ : ∀ H', Same H H' → Q (optV (pairW n.same fs x y)) H') : sp_pair C vs H Q u3
abbrev abc : Str := Str.ofString "abcdefghijklmnopqrstuvwxyz"
theorem abc_len : abc.length = 26 := by decide +kernel
theorem str_at (zs : List Str) {i : Int} (h0 : 0 ≤ i) (h : i < (zs.length : Int)) : ∃ m, m ∈ zs ∧ atI (zs.map V.str) i = some (.str m) := by
  obtain ⟨j, rfl⟩ := Int.eq_ofNat_of_zero_le h0
  have hj : j < zs.length := by omega
  exact ⟨zs[j], List.getElem_mem hj, atI_nat (by simp [hj])⟩
theorem app_cps (x y : Str) : (x ++ y).cps.toList = x.cps.toList ++ y.cps.toList := by
  show (x.cps ++ y.cps).toList = _
  simp
def Tups (H H' : Hp) : Prop := ∀ t v, H t = some (.tup v) → H' t = some (.tup v)
theorem Tups.same {H H' : Hp} (s : Same H H') : Tups H H' := fun t v h => s _ _ h
theorem Tups.lst {H : Hp} {l : Addr} {xs : List V} {o : HO} (h : H l = some (.lst xs)) : Tups H (upd H l o) := fun t v e => by
  rw [upd_ne (ne_of e h (by intro z; cases z))]; exact e
theorem Trips.tups {H H' : Hp} {xs : List V} {fs : List Form} (T : Trips H xs fs) (k : Tups H H') : Trips H' xs fs := ⟨T.1, fun i f e => let ⟨b, h1, h2⟩ := T.2 i f e; ⟨b, h1, k _ _ h2⟩⟩
theorem Trips.snoc {H : Hp} {xs : List V} {fs : List Form} {t : Addr} {f : Form} (T : Trips H xs fs) (ht : H t = some (.tup (trip f))) : Trips H (xs ++ [.ref t]) (fs ++ [f]) := by
  refine ⟨by simp [T.1], fun i g e => ?_⟩
  by_cases h : i < fs.length
  · rw [List.getElem?_append_left h] at e
    obtain ⟨b, h1, h2⟩ := T.2 i g e
    exact ⟨b, by rw [List.getElem?_append_left (by rw [T.1]; exact h)]; exact h1, h2⟩
  · have hi : i = fs.length := by
      have := (List.getElem?_eq_some_iff.mp e).1
      simp at this
      omega
    subst hi
    have hg : f = g := by simpa using e
    subst hg
    exact ⟨t, by rw [← T.1]; simp, ht⟩
theorem ixN_nat {n j : Nat} (h : j < n) : ixN n (j : Int) = some j := by
  unfold ixN
  rw [if_pos (by omega), if_pos (by omega)]
  simp
end QF

set_option Elab.async false
set_option linter.all false
set_option maxRecDepth 100000
set_option maxHeartbeats 4000000
/-! banks of words, and near forms among them -/
namespace QF
open PySem L2
theorem abc_cps : abc.cps.toList = (List.range 26).map (97 + ·) := by decide +kernel
theorem abc_is {r : Int} : atI abc.cps.toList (r % 26) = some (97 + (r % 26).toNat) := by
  have h0 : 0 ≤ r % 26 := by omega
  have h1 : r % 26 < 26 := by omega
  generalize r % 26 = m at h0 h1
  obtain ⟨j, rfl⟩ := Int.eq_ofNat_of_zero_le h0
  refine atI_nat ?_
  have hj : j < 26 := by omega
  rw [abc_cps]
  simp [hj]
theorem low_abc (r : Int) : low (97 + (r % 26).toNat) = true := by
  have h1 : (r % 26).toNat ≤ 25 := by omega
  simp [low]
  omega
def lows (z : Str) : Prop := z.cps.toList.all low = true
/-- the k-th word of a bank -/
def bankW (stem : Str) (cell other : Int) (k : Nat) : Str :=
  let size := 1 + cell / 2 % 12
  if cell % 2 = 1 then Txt.slice stem none (some (1 + (size + k) % 12))
  else Txt.slice stem none (some (other % size)) ++ ⟨#[97 + ((other / 12 + k) % 26).toNat]⟩ ++ Txt.slice stem (some (other % size + 1)) (some size)
theorem sIx_pos {n d : Nat} {v : Int} (h0 : 0 ≤ v) (h : v ≤ n) : HT.sIx n d (some v) = v.toNat := by
  simp only [HT.sIx]
  split <;> omega
theorem slice_to {z : Str} {v : Int} (h0 : 0 ≤ v) (h : v ≤ z.length) : (Txt.slice z none (some v)).cps.toList = z.cps.toList.take v.toNat := by
  rw [slice_cps, sIx_pos h0 h, HT.sIx_none]
  simp
theorem slice_in {z : Str} {u v : Int} (h0 : 0 ≤ u) (h1 : u ≤ v) (h : v ≤ z.length) : (Txt.slice z (some u) (some v)).cps.toList = (z.cps.toList.drop u.toNat).take (v.toNat - u.toNat) := by
  rw [slice_cps, sIx_pos h0 (by omega), sIx_pos (by omega) h]
theorem len_list (z : Str) : z.cps.toList.length = z.length := by simp [Str.length]
theorem isW_of {z : Str} (h1 : 1 ≤ z.length) (h2 : z.length ≤ 12) (h : lows z) : isW z = true := by
  have h : z.cps.toList.all low = true := h
  simp [isW, h1, h2, h]
theorem bank_isW {stem : Str} (hl : stem.length = 12) (hs : lows stem) (cell other : Int) (k : Nat) : isW (bankW stem cell other k) = true := by
  have hs' := List.all_eq_true.mp hs
  have hll := len_list stem
  have z0 : 1 ≤ 1 + cell / 2 % 12 ∧ 1 + cell / 2 % 12 ≤ 12 := by omega
  unfold bankW
  simp only
  generalize 1 + cell / 2 % 12 = size at z0
  split
  · have z1 : 1 ≤ 1 + (size + (k : Int)) % 12 ∧ 1 + (size + (k : Int)) % 12 ≤ 12 := by omega
    generalize 1 + (size + (k : Int)) % 12 = m at z1
    have e := slice_to (z := stem) (v := m) (by omega) (by omega)
    have el : (Txt.slice stem none (some m)).length = m.toNat := by rw [← len_list, e, List.length_take, hll]; omega
    refine isW_of (by omega) (by omega) ?_
    unfold lows
    rw [e, List.all_eq_true]
    exact fun c hc => hs' c (List.mem_of_mem_take hc)
  · have z1 : 0 ≤ other % size ∧ other % size < size := ⟨Int.emod_nonneg _ (by omega), Int.emod_lt_of_pos _ (by omega)⟩
    generalize other % size = spot at z1
    have e1 := slice_to (z := stem) (v := spot) (by omega) (by omega)
    have e2 := slice_in (z := stem) (u := spot + 1) (v := size) (by omega) (by omega) (by omega)
    have l1 : (Txt.slice stem none (some spot)).length = spot.toNat := by rw [← len_list, e1, List.length_take, hll]; omega
    have l2 : (Txt.slice stem (some (spot + 1)) (some size)).length = size.toNat - (spot + 1).toNat := by rw [← len_list, e2, List.length_take, List.length_drop, hll]; omega
    have el : (Txt.slice stem none (some spot) ++ (⟨#[97 + ((other / 12 + (k : Int)) % 26).toNat]⟩ : Str) ++ Txt.slice stem (some (spot + 1)) (some size)).length = size.toNat := by
      rw [len_app, len_app, l1, l2]
      show spot.toNat + 1 + _ = _
      omega
    refine isW_of (by omega) (by omega) ?_
    unfold lows
    rw [app_cps, app_cps, e1, e2, List.all_append, List.all_append]
    have a1 : (stem.cps.toList.take spot.toNat).all low = true := List.all_eq_true.mpr fun c hc => hs' c (List.mem_of_mem_take hc)
    have a2 : ((stem.cps.toList.drop (spot + 1).toNat).take (size.toNat - (spot + 1).toNat)).all low = true := List.all_eq_true.mpr fun c hc => hs' c (List.mem_of_mem_drop (List.mem_of_mem_take hc))
    have a3 := low_abc (other / 12 + (k : Int))
    rw [a1, a2]
    simp [a3]
theorem mid_at {A B : List Nat} {c : Nat} : (A ++ [c] ++ B)[A.length]? = some c := by simp
theorem bank_inj {stem : Str} (hl : stem.length = 12) (cell other : Int) {k k' : Nat} (hk : k < 12) (hk' : k' < 12) (e : bankW stem cell other k = bankW stem cell other k') : k = k' := by
  have hll := len_list stem
  have z0 : 1 ≤ 1 + cell / 2 % 12 ∧ 1 + cell / 2 % 12 ≤ 12 := by omega
  unfold bankW at e
  simp only at e
  generalize 1 + cell / 2 % 12 = size at z0 e
  split at e
  · have e := congrArg (fun z : Str => z.cps.toList.length) e
    rw [slice_to (by omega) (by omega), slice_to (by omega) (by omega), List.length_take, List.length_take, hll, hl] at e
    omega
  · have z1 : 0 ≤ other % size ∧ other % size < size := ⟨Int.emod_nonneg _ (by omega), Int.emod_lt_of_pos _ (by omega)⟩
    generalize other % size = spot at z1 e
    have e1 := slice_to (z := stem) (v := spot) (by omega) (by omega)
    have l1 : (stem.cps.toList.take spot.toNat).length = spot.toNat := by rw [List.length_take, hll]; omega
    have at_ : ∀ c : Nat, (Txt.slice stem none (some spot) ++ (⟨#[c]⟩ : Str) ++ Txt.slice stem (some (spot + 1)) (some size)).cps.toList[spot.toNat]? = some c := fun c => by
      rw [app_cps, app_cps, e1]
      have := mid_at (A := stem.cps.toList.take spot.toNat) (B := (Txt.slice stem (some (spot + 1)) (some size)).cps.toList) (c := c)
      rw [l1] at this
      exact this
    have e := congrArg (fun z : Str => z.cps.toList[spot.toNat]?) e
    have e2 := (at_ _).symm.trans (e.trans (at_ _))
    have e3 := Option.some.inj e2
    omega
/-- different words -/
theorem bank_nodup {stem : Str} (hl : stem.length = 12) (cell other : Int) {n : Nat} (hn : n ≤ 12) : ((List.range n).map (bankW stem cell other)).Nodup := by
  refine List.pairwise_map.mpr ?_
  refine List.Pairwise.imp_of_mem (R := fun a b => a ≠ b) (fun {a b} ha hb h e => h ?_) List.nodup_range
  exact bank_inj hl cell other (by have := List.mem_range.mp ha; omega) (by have := List.mem_range.mp hb; omega) e
inductive sp_bank (vs : List V) (H : Hp) (Q : VK) (u3 : XK) : Prop
  | mk (cell other many : Int) (_ : vs = [.int cell, .int other, .int many]) (_ : 0 ≤ many) (_ : many ≤ 12) (_ : ∀ H' b (zs : List Str), Same H H' → H b = none → H' b = some (.lst (zs.map V.str)) → zs.length = many.toNat → (∀ z ∈ zs, isW z = true) → zs.Nodup → Q (.ref b) H') : sp_bank  vs H Q u3
/-! near forms among words -/
structure PairInv (zs : List Str) (i j : Nat) (fs : List Form) : Prop where
  ok : ∀ f ∈ fs, fOk f = true
  nd : (fs.map key2).Nodup
  old : ∀ f ∈ fs, ∃ i' j', (i' < i ∨ (i' = i ∧ j' < j)) ∧ zs[i']? = some f.1 ∧ zs[j']? = some f.2.1
  few : fs.length + (if i < j then 1 else 0) ≤ i * (zs.length - 1) + j
theorem PairInv.nil {zs : List Str} : PairInv zs 0 0 [] := ⟨by simp, by simp, by simp, by simp⟩
theorem PairInv.skip {zs : List Str} {i j : Nat} {fs : List Form} (p : PairInv zs i j fs) : PairInv zs i (j + 1) fs := by
  refine ⟨p.ok, p.nd, fun f hf => ?_, ?_⟩
  · obtain ⟨i', j', h, r⟩ := p.old f hf
    exact ⟨i', j', by omega, r⟩
  · have := p.few
    split <;> split at this <;> omega
theorem nodup_at {zs : List Str} (hn : zs.Nodup) {i j : Nat} {x : Str} (h1 : zs[i]? = some x) (h2 : zs[j]? = some x) : i = j := by
  obtain ⟨a1, b1⟩ := List.getElem?_eq_some_iff.mp h1
  obtain ⟨a2, b2⟩ := List.getElem?_eq_some_iff.mp h2
  exact (List.getElem_inj hn).mp (b1.trans b2.symm)
theorem PairInv.add {zs : List Str} {i j : Nat} {fs : List Form} (p : PairInv zs i j fs) (hn : zs.Nodup) (hw : ∀ z ∈ zs, isW z = true) {x y : Str} (hx : zs[i]? = some x) (hy : zs[j]? = some y) (hne : ¬ x = y) {pr : Int} (h0 : 0 ≤ pr) (h1 : pr ≤ 999999) :
    PairInv zs i (j + 1) (fs ++ [(x, y, pr)]) := by
  have hij : i ≠ j := fun e => hne (by subst e; rw [hx] at hy; exact Option.some.inj hy)
  refine ⟨fun f hf => ?_, ?_, fun f hf => ?_, ?_⟩
  · rcases List.mem_append.mp hf with h | h
    · exact p.ok f h
    · have h : f = (x, y, pr) := by simpa using h
      rw [h]
      have a1 := hw x (List.mem_of_getElem? hx)
      have a2 := hw y (List.mem_of_getElem? hy)
      simp [fOk, formOk, a1, a2, hne, inR, h0, h1]
  · rw [List.map_append]
    refine List.nodup_append.mpr ⟨p.nd, by simp, fun a ha b hb e => ?_⟩
    have hb : b = key2 (x, y, pr) := by simpa using hb
    rw [e, hb] at ha
    obtain ⟨f, hf, ef⟩ := List.mem_map.mp ha
    obtain ⟨e1, e2⟩ := (key2_eq f x y).mp ef
    obtain ⟨i', j', h, r1, r2⟩ := p.old f hf
    rw [e1] at r1
    rw [e2] at r2
    have := nodup_at hn r1 hx
    have := nodup_at hn r2 hy
    omega
  · rcases List.mem_append.mp hf with h | h
    · obtain ⟨i', j', h, r⟩ := p.old f h
      exact ⟨i', j', by omega, r⟩
    · have h : f = (x, y, pr) := by simpa using h
      rw [h]
      exact ⟨i, j, by omega, hx, hy⟩
  · have := p.few
    rw [List.length_append]
    show fs.length + 1 + _ ≤ _
    split <;> split at this <;> omega
theorem PairInv.row {zs : List Str} {i : Nat} {fs : List Form} (p : PairInv zs i zs.length fs) (hi : i < zs.length) : PairInv zs (i + 1) 0 fs := by
  refine ⟨p.ok, p.nd, fun f hf => ?_, ?_⟩
  · obtain ⟨i', j', h, r⟩ := p.old f hf
    exact ⟨i', j', by omega, r⟩
  · have h := p.few
    rw [if_pos hi] at h
    rw [if_neg (by omega), Nat.succ_mul]
    omega
theorem PairInv.good {zs : List Str} {fs : List Form} (p : PairInv zs zs.length 0 fs) (h : zs.length ≤ 8) : goodNear fs = true := by
  have h1 := p.few
  have h2 : zs.length * (zs.length - 1) ≤ 8 * 7 := Nat.mul_le_mul h (by omega)
  rw [if_neg (by omega)] at h1
  have h3 : fs.length ≤ 60 := by omega
  have h4 : fs.all fOk = true := List.all_eq_true.mpr p.ok
  simp [goodNear, h3, h4, p.nd]
theorem good_short {fs : List Form} (h : goodNear fs = true) : Short fs := by
  simp only [goodNear, Bool.and_eq_true, decide_eq_true_eq, List.all_eq_true] at h
  refine ⟨by omega, fun f hf => ?_⟩
  have h1 := h.1.2 f hf
  simp only [fOk, formOk, isW, Bool.and_eq_true, decide_eq_true_eq] at h1
  omega
inductive sp_near (vs : List V) (H : Hp) (Q : VK) (u3 : XK) : Prop
  | mk (cell same : Int) (b : Addr) (zs : List Str) (_ : vs = [.int cell, .ref b, .int same]) (_ : H b = some (.lst (zs.map V.str))) (_ : zs.length ≤ 8) (_ : (∀ z ∈ zs, isW z = true)) (_ : zs.Nodup) (_ : 1 ≤ same) (_ : same ≤ 999999) (_ : ∀ H' l xs fs, Same H H' → H l = none → H' l = some (.lst xs) → Trips H' xs fs → goodNear fs = true → Q (.ref l) H') : sp_near  vs H Q u3
inductive sp_lpair (vs : List V) (H : Hp) (Q : VK) (u3 : XK) : Prop
  | mk (x y : Str) (same : Int) (l : Addr) (xs : List V) (fs : List Form) (_ : vs = [.str x, .str y, .int same, .ref l]) (_ : H l = some (.lst xs)) (_ : Trips H xs fs) (_ : Q (optV (pairW same fs x y)) H) : sp_lpair  vs H Q u3
theorem word_at {zs : List Str} {i : Nat} {v : V} (h : (zs.map V.str)[i]? = some v) : ∃ x, zs[i]? = some x ∧ v = .str x := by
  rw [List.getElem?_map] at h
  cases e : zs[i]? with
  | none => rw [e] at h; cases h
  | some x => rw [e] at h; exact ⟨x, rfl, (Option.some.inj h).symm⟩
theorem no_price {fs : List Form} {x y : Str} (h : ∀ f ∈ fs, ¬ (f.1 = x ∧ f.2.1 = y)) : priceOf fs x y = none := by
  have : fs.find? (fun f => decide (f.1 = x ∧ f.2.1 = y)) = none := by
    rw [List.find?_eq_none]
    intro f hf
    simpa using h f hf
  unfold priceOf
  rw [this]; rfl
theorem first_price : ∀ {fs : List Form} {i : Nat} {x y x0 y0 : Str} {p : Int}, fs[i]? = some (x0, y0, p) → (∀ f ∈ fs.take i, ¬ (f.1 = x ∧ f.2.1 = y)) → (x0 = x ∧ y0 = y) → priceOf fs x y = some p
  | f :: r, 0, x, y, x0, y0, p, h, _, e => by
    have h : f = (x0, y0, p) := by simpa using h
    rw [h]
    simp [priceOf, List.find?_cons, e.1, e.2]
  | f :: r, i + 1, x, y, x0, y0, p, h, hn, e => by
    have h1 : ¬ (f.1 = x ∧ f.2.1 = y) := hn f (by simp)
    have := first_price (fs := r) (i := i) (x := x) (y := y) (by simpa using h) (fun g hg => hn g (by simp [hg])) e
    simpa [priceOf, List.find?_cons, h1] using this
end QF

set_option Elab.async false
set_option linter.all false
set_option maxRecDepth 100000
set_option maxHeartbeats 4000000
/-! terms that are turned -/
namespace QF
open PySem L2
inductive sp_numbers (K : W.Frag) (vs : List V) (H : Hp) (Q : VK) (u3 : XK) : Prop
  | mk (a : Addr) (ns : List Int) (k : Int) (_ : vs = [.ref a, .int k]) (_ : SqL K H a (ns.map V.int)) (_ : 0 ≤ k) (_ : ∀ H' D (s o i l : Int), Same H H' → H D = none → H' D = some (.lst [.int s, .int o, .int i, .int l]) → (1 ≤ s ∧ s ≤ 999999) → (0 ≤ o ∧ o ≤ 999999) → (0 ≤ i ∧ i ≤ 999999) → (1 ≤ l ∧ l ≤ 999999) → Q (.ref D) H') : sp_numbers K vs H Q u3
theorem TermsAt.same {H H' : Hp} {C x : Addr} {n : Nums} {fs : List Form} {dx l d : Addr} {xs : List V} (T : TermsAt H C x n fs dx l d xs) (s : Same H H') : TermsAt H' C x n fs dx l d xs := ⟨s _ _ T.ob, s _ _ T.own, s _ _ T.li, T.tr.same s, s _ _ T.di⟩
theorem four_of {is : List Int} (h : is.length = 4) : ∃ a b c d, is = [a, b, c, d] := by
  match is, h with
  | [a, b, c, d], _ => exact ⟨a, b, c, d, rfl⟩
/-- within what the object's making leaves as it was -/
theorem SameBut.of_new {x dx C : Addr} {H H' : Hp} (hx : H x = none) (hdx : H dx = none) (s : SameBut x (L2.upd (L2.upd H dx (.own x)) x (.ins C dx [])) H') : Same H H' := fun b u e => by
  have n1 : b ≠ x := ne_of_none e hx
  have n2 : b ≠ dx := ne_of_none e hdx
  exact s b u n1 (by rw [upd_ne n1, upd_ne n2]; exact e)
end QF

set_option Elab.async false
set_option linter.all false
set_option maxRecDepth 100000
set_option maxHeartbeats 4000000
namespace L2
open PySem PySem.Spec PyProof.Rows PySem.W PySem.Calls

/-! ### several records of ours have turned; a new thing of theirs is taken in -/
section
variable {X : Cx} {pins : List (Addr × Obj)} {σ : St} {H : Hp} {s : Shared} {h' : Heap}
theorem Inv.turnedL {t' : Nat} {fp : List Addr} (I : Inv X pins σ H s) (hf : ∀ b ∈ fp, FpOk X pins H b) (k : ∀ b o, b ∉ fp → s.heap.get? b = some o → h'.get? b = some o) : Inv X pins σ H { s with heap := h', toks := t' } := by
  have nit : ∀ b u, H b = some u → b ∉ fp := fun b u e z => by rw [(hf b z).1] at e; cases e
  refine I.step (g' := s.gens) (d' := s.drawn) (ch := fp) (fun b hb => ?_) (fun b o _ _ hc e _ => k b o hc e) (fun b o _ _ hc e _ => ⟨o.slots, k b o hc e⟩) (fun _ _ _ _ n => n)
    (fun b o hc e => ⟨o, k b o hc e⟩) (fun _ _ e => e) (fun _ _ _ e => e) (fun b ps e => ⟨#[], by rw [e]; simp⟩) (fun m hm => ?_) (fun b u e => ?_) I.bare
  · obtain ⟨_, f1, _, f3, f4, f5⟩ := hf b hb
    exact ⟨f3, f1, f4, f5⟩
  · obtain ⟨o, es, ep, ho, r⟩ := hm
    exact ⟨o, es, ep, k _ o (fun z => (hf _ z).2.1 rfl) ho, r⟩
  · refine (I.hok b u e).stay (fun c v hc q => k c v ?_ q) (fun _ q => q) fun _ _ q => q
    rcases hc with z | z
    · rw [z]; exact nit b u e
    · exact nit c _ z
theorem Inv.turnedT {t' : Nat} {fp : List Addr} {T : Addr} {u : HO} (I : Inv X pins σ H s) (hf : ∀ b ∈ fp, FpOk X pins H b) (hT : FpOk X pins H T) (k : ∀ b o, b ∉ fp → s.heap.get? b = some o → h'.get? b = some o)
    (new : ObjOk X.prog X.w (upd H T u) h' T u) : Inv X pins σ (upd H T u) { s with heap := h', toks := t' } := by
  have nit : ∀ b u, H b = some u → b ∉ fp := fun b u e z => by rw [(hf b z).1] at e; cases e
  have nT : ∀ b v, H b = some v → b ≠ T := fun b v e z => by rw [z, hT.1] at e; cases e
  refine I.step (g' := s.gens) (d' := s.drawn) (ch := T :: fp) (fun b hb => ?_) (fun b o _ _ hc e _ => k b o (fun z => hc (List.mem_cons_of_mem _ z)) e) (fun b o _ _ hc e _ => ⟨o.slots, k b o (fun z => hc (List.mem_cons_of_mem _ z)) e⟩) (fun b _ hc _ n => ?_)
    (fun b o hc e => ⟨o, k b o (fun z => hc (List.mem_cons_of_mem _ z)) e⟩) (fun b xs e => by rw [upd_ne (nT b _ e)]; exact e) (fun b o v e => by rw [upd_ne (nT b _ e)]; exact e) (fun b ps e => ⟨#[], by rw [upd_ne (nT b _ e), e]; simp⟩) (fun m hm => ?_) (fun b v e => ?_) I.bare
  · rcases List.mem_cons.mp hb with z | z
    · subst z
      obtain ⟨_, f1, _, f3, f4, f5⟩ := hT
      exact ⟨f3, f1, f4, f5⟩
    · obtain ⟨_, f1, _, f3, f4, f5⟩ := hf b z
      exact ⟨f3, f1, f4, f5⟩
  · rw [upd_ne (fun z => hc (by simp [z]))]; exact n
  · obtain ⟨o, es, ep, ho, r⟩ := hm
    exact ⟨o, es, ep, k _ o (fun z => (hf _ z).2.1 rfl) ho, r⟩
  · by_cases hb : b = T
    · subst hb; rw [upd_same] at e; cases e; exact new
    · rw [upd_ne hb] at e
      refine (I.hok b v e).stay (fun c v' hc q => k c v' ?_ q) (fun c q => by rw [upd_ne (nT c _ q)]; exact q) fun c xs q => by rw [upd_ne (nT c _ q)]; exact q
      rcases hc with z | z
      · rw [z]; exact nit b v e
      · exact nit c _ z
end

/-! ### enumerate -/
def Ite (K : Frag) (a : Addr) : It :=
  ⟨fun i H => ∃ xs x, SqL K H a xs ∧ xs[i]? = some x, fun i H x H' => ∃ T y, x = .ref T ∧ H T = none ∧ H' = upd H T (.tup [.int i, y]) ∧ ∀ xs, SqL K H a xs → xs[i]? = some y, fun i H => ∃ xs, SqL K H a xs ∧ xs.length ≤ i⟩
theorem turn_enum {P : Program} {w : World} {K : Frag} {elts : List Expr} {n : Nat} {pos : Pos} (a e it : Addr) (hne : e ≠ it) :
    Turn P w K (.Tuple elts n pos) (Ite K a) [e, it] e (fun i h => (∃ old, IsEnum h e it (i : Nat) old) ∧ h.IsListIter it a i) where
  mem := by simp
  obj := fun i h st b hb => by
    obtain ⟨⟨old, s1⟩, o, s2, _, s3⟩ := st
    rcases List.mem_cons.mp hb with z | z
    · subst z; exact ⟨_, s1, fun v z => by
        have z' : Data.fields _ = Data.cell v := z
        cases z'⟩
    · have e : b = it := by simpa using z
      subst e
      exact ⟨o, s2, fun v z => by rw [s3] at z; cases z⟩
  keep := fun i h h' st k => ⟨⟨st.1.choose, k e (by simp) _ st.1.choose_spec⟩, st.2.at fun o q => k it (by simp) o q⟩
  item := by
    intro X hP hw hK hc i pins s σ H E I hf st hg
    subst hP hw hK
    obtain ⟨xs, x, hq, hx⟩ := hg
    obtain ⟨⟨old, s1⟩, s2⟩ := st
    obtain ⟨its, rv, p, hz⟩ := I.list hq
    obtain ⟨u, hu, ru⟩ := rv.get hx
    refine wpAny_pyNext_enum_item s1 s2 p.isList (x := u) (by simpa using hu) hne fun h' o1 o2 o3 o4 o5 => ?_
    refine ⟨_, rfl, wpAny_letOwnedTupleGo_enum (s := { s with heap := h', toks := s.toks + 1 }) o1 fun h2 q1 q2 => ?_⟩
    have hl2 : h2.get? s.heap.objs.size = some { cls := Value.type "tuple", data := Data.seq #[Value.int (↑i) s.toks, u] } := by
      exact (q2.2 _ (Nat.ne_of_gt (Heap.lt_size s1))).trans o3
    have hT : FpOk X pins H s.heap.objs.size := I.fpOk (Nat.le_refl _) (I.hok.fresh (Nat.le_refl _))
    have I1 : Inv X pins σ (upd H s.heap.objs.size (.tup [.int i, x])) { s with heap := h2, toks := s.toks + 1 } := by
      refine I.turnedT hf hT (fun b o hb q => ?_) ⟨by simp [sizeLine], [Value.int (↑i) s.toks, u], .cons ⟨_, rfl⟩ (.cons ru .nil), ?_⟩
      · have b1 : b ≠ e := fun z => hb (by simp [z])
        have b2 : b ≠ it := fun z => hb (by simp [z])
        exact (q2.2 b b1).trans (o5 b o b1 b2 q)
      · exact ⟨_, hl2, rfl, _, rfl⟩
    refine ⟨.ref s.heap.objs.size, _, I1, rfl, ⟨_, x, rfl, hT.1, rfl, fun ys hy => by rw [I.list_inj hy hq]; exact hx⟩, ⟨⟨u, by simpa using q1⟩, o2.at fun o q => (q2.2 it (Ne.symm hne)).trans q⟩, fun b hb => ?_⟩
    rw [upd_ne (fun z => ?_)]
    · exact (hf b hb).1
    · have h1 := Heap.lt_size s1
      obtain ⟨_, h2, _⟩ := s2
      have h3 := Heap.lt_size h2
      rcases List.mem_cons.mp hb with y | y
      · rw [z.symm.trans y] at h1; exact absurd h1 (Nat.lt_irrefl _)
      · have : b = it := by simpa using y
        rw [z.symm.trans this] at h3; exact absurd h3 (Nat.lt_irrefl _)
  done := by
    intro X hP hw hK hc i pins s σ H E I hf st hg
    subst hP hw hK
    obtain ⟨xs, hq, hx⟩ := hg
    obtain ⟨⟨old, s1⟩, s2⟩ := st
    obtain ⟨its, rv, p, hz⟩ := I.list hq
    have hl := rv.length
    exact wpAny_pyNext_enum_end (I.ok.hd hc) s1 s2 p.isList (by simp; omega) fun h' eb => ⟨rfl, I.turnedL (t' := s.toks) hf (fun b o hb q => eb b o (fun z => hb (by simp [z])) q)⟩
  self := fun _ _ _ _ _ st h => wpAny_pyIter_enum st.1.choose_spec h
section
variable {X : Cx} {tg : Expr}
def iEnum (K : Frag) (ta : TA) : TI := fun σ H R => ta σ H fun vs H1 => ∃ a, vs = [.ref a] ∧ (∃ xs, SqL K H1 a xs) ∧ R (Ite K a) H1
theorem pi_enum {elts : List Expr} {n : Nat} {tp : Pos} {a : Expr} {ta : TA} {p pos : Pos} (hg : Gl X "enumerate") (hm : X.mg "enumerate" = none) (ha : PA X [a] ta) (hs : starEach [a] X.env = [(false, eval a X.env)] := by rfl) :
    PI X (.Tuple elts n tp) (.Call (.Name "enumerate" p) [a] [] pos) (iEnum X.K ta) := by
  intro pins s σ H R I h
  refine Call_ (ld_blt I hg hm boot_enumerate (PyProof.Rows.callWith_type1 (thn (ha pos pins s σ H _ I h) fun us s1 ⟨vs, H1, I1, r1, q1⟩ => ?_) hs rfl))
  obtain ⟨l, e, ⟨xs, hq⟩, q⟩ := q1
  subst e
  cases r1 with
  | cons r rr =>
    cases rr
    cases r
    obtain ⟨its, rv, p, hz⟩ := I1.list hq
    refine call_enumerate_list p.isList fun h' o1 o2 o3 o4 => ?_
    refine wpAny_pyIter_enum (s := { s1 with heap := h' }) o1 ?_
    refine ⟨s1.heap.objs.size + 1, [s1.heap.objs.size + 1, s1.heap.objs.size], _, _, H1, rfl, I1.kept (t' := s1.toks) o4, turn_enum l _ _ (Nat.succ_ne_self _), ⟨⟨_, o1⟩, o2⟩, fun b hb => ?_, q⟩
    have hb' : s1.heap.objs.size ≤ b := by
      rcases List.mem_cons.mp hb with y | y
      · rw [y]; exact Nat.le_succ _
      · have : b = s1.heap.objs.size := by simpa using y
        exact Nat.le_of_eq this.symm
    exact I1.fpOk hb' (I1.hok.fresh hb')
end
theorem pi_enumK {X : Cx} (K : Frag) {elts : List Expr} {n : Nat} {tp : Pos} {a : Expr} {ta : TA} {p pos : Pos} (hg : Gl X "enumerate") (hm : X.mg "enumerate" = none) (ha : PA X [a] ta) (hs : starEach [a] X.env = [(false, eval a X.env)] := by rfl) (h : X.K = K := by rfl) :
    PI X (.Tuple elts n tp) (.Call (.Name "enumerate" p) [a] [] pos) (iEnum K ta) := h ▸ pi_enum hg hm ha hs
/-- over enumerate(xs) -/
theorem for_enum {K : Frag} {a : Addr} {xs : List V} {g : TG} {tb : TS} {D : Ends} {σ : St} {H : Hp} (Pv : Nat → St → Hp → Prop) (h0 : Pv 0 σ H) (hl : ∀ i σ H, i ≤ xs.length → Pv i σ H → SqL K H a xs)
    (hs : ∀ i x T σ H, xs[i]? = some x → Pv i σ H → H T = none → g (.ref T) σ (upd H T (.tup [.int i, x])) fun σ2 H2 => tb { D with nx := Pv (i + 1), ct := Pv (i + 1), bk := D.nx } σ2 H2) (hd : ∀ σ H, Pv xs.length σ H → D.nx σ H) :
    ∃ W : Nat → Nat → St → Hp → Prop, (∃ m, W 0 m σ H) ∧ ∀ i m σ H, W i m σ H →
      ((Ite K a).stop i H ∧ D.nx σ H) ∨ ((Ite K a).go i H ∧ ∃ N : St → Hp → Prop, (∀ σ' H', N σ' H' → ∃ m', m' < m ∧ W (i + 1) m' σ' H') ∧ ∀ x H', (Ite K a).yld i H x H' → g x σ H' fun σ2 H2 => tb { D with nx := N, ct := N, bk := D.nx } σ2 H2) := by
  refine ⟨fun i m σ H => m = xs.length - i ∧ i ≤ xs.length ∧ Pv i σ H, ⟨xs.length, by simp, Nat.zero_le _, h0⟩, ?_⟩
  rintro i m σ H ⟨rfl, hi, p⟩
  have hq := hl i σ H hi p
  by_cases hlt : i < xs.length
  · refine .inr ⟨⟨xs, xs[i], hq, by simp [hlt]⟩, Pv (i + 1), fun σ' H' p' => ⟨xs.length - (i + 1), by omega, rfl, hlt, p'⟩, fun x H' y => ?_⟩
    obtain ⟨T, y, rfl, hT, rfl, hy⟩ := y
    exact hs i y T σ H (hy xs hq) p hT
  · have e : i = xs.length := by omega
    subst e
    exact .inl ⟨⟨xs, hq, Nat.le_refl _⟩, hd σ H p⟩

/-! ### the keys of a dict -/
section
variable {X : Cx} {tg : Expr}
end
end L2

set_option Elab.async false
set_option linter.all false
set_option maxRecDepth 100000
set_option maxHeartbeats 4000000
/-! places of words -/
namespace QF
open PySem L2
inductive sp_book (K : W.Frag) (vs : List V) (H : Hp) (Q : VK) (u3 : XK) : Prop
  | mk (a b : Addr) (ns : List Int) (zs : List Str) (c p m : Int) (_ : vs = [.ref a, .int c, .int p, .int m, .ref b]) (_ : SqL K H a (ns.map V.int)) (_ : H b = some (.lst (zs.map V.str))) (_ : (1 ≤ zs.length ∧ zs.length ≤ 1000)) (_ : 0 ≤ p) (_ : 0 ≤ m) (_ : m ≤ 1000) (_ : ∀ H' l (ws : List Str), Same H H' → H l = none → H' l = some (.lst (ws.map V.str)) → ws.length = m.toNat → (∀ w ∈ ws, w ∈ zs) → Q (.ref l) H') : sp_book K vs H Q u3
inductive sp_row (vs : List V) (H : Hp) (Q : VK) (u3 : XK) : Prop
  | mk (a b : Addr) (is : List Int) (_ : vs = [.ref a, .ref b]) (_ : H a = some (.lst (is.map V.int))) (_ : H b = some (.lst (is.map V.int))) (_ : is.length ≤ 10000) (_ : Q (.bl true) H) : sp_row  vs H Q u3
end QF

set_option Elab.async false
set_option linter.all false
set_option maxRecDepth 100000
set_option maxHeartbeats 4000000
namespace L2
open PySem PySem.Spec PyProof.Rows PySem.W PySem.Calls
section
variable {X : Cx}
end
end L2
namespace QF
open PySem L2
/-! how a text is read -/
def cap (c : Nat) : Bool := decide (65 ≤ c) && decide (c ≤ 90)
def conv (c : Nat) : Nat := if low c = true then c else if cap c = true then c + 32 else 32
/-! how many, how long -/
/-! the law's own reading -/
def rd (st : KWd.St) (cs : List Nat) : KWd.St := (cs.map conv).foldl KWd.step st
abbrev both : Str := Str.ofString "abcdefghijklmnopqrstuvwxyzABCDEFGHIJKLMNOPQRSTUVWXYZ"
end QF

set_option Elab.async false
set_option linter.all false
set_option maxRecDepth 100000
set_option maxHeartbeats 4000000
/-! lists: insert, == and != -/
namespace L2
open PySem PySem.Spec PyProof.Rows PySem.W PySem.Calls
section
variable {X : Cx}
def insV (xs : List V) (i : Int) (y : V) : List V := xs.take (min i.toNat xs.length) ++ y :: xs.drop (min i.toNat xs.length)
inductive rInsert (x : V) (vs : List V) (H : Hp) (Q : VK) : Prop
  | mk (l : _) (xs : _) (i : _) (y : _) (_ : x = .ref l) (_ : vs = [.int i, y]) (_ : H l = some (.lst xs)) (_ : (0 ≤ i ∧ i < 100000)) (_ : xs.length < sizeLine) (_ : Q .non (upd H l (.lst (insV xs i y)))) : rInsert  x vs H Q
theorem mt_insert : MtM X "list.insert" rInsert := by
  intro pins s σ H x vs v us Q I rx rv h
  obtain ⟨l, xs, i, y, rfl, rfl, hH, hi, hz, q⟩ := h
  cases rx
  obtain ⟨u1, u2, rfl, ⟨t, rfl⟩, ru⟩ : ∃ u1 u2, us = [u1, u2] ∧ RelV (.int i) u1 ∧ RelV y u2 := by
    cases rv with
    | cons a b => cases b with
      | cons c d => cases d; exact ⟨_, _, rfl, a, c⟩
  obtain ⟨z, its, n, r, hl, e⟩ := I.lstM hH
  have hf : Builtin.List.listFitsIndex i = true := by
    unfold Builtin.List.listFitsIndex
    simp
    omega
  refine call_meets F.slot_list_insert ⟨_, e, rfl⟩ F.entry_list_insert (F.args_list_insert_3 _ _ _) (AutoSeq1.list_insert_list_int_val_1 l its.toArray n i t u2 (by rw [hf]; decide) (by rw [List.size_toArray]; omega)) ⟨e, ?_⟩
  refine ⟨.non, _, I.lset (its' := its.take (min i.toNat its.length) ++ u2 :: its.drop (min i.toNat its.length)) (ys := insV xs i y) hH e ?_ ?_ ?_, rfl, q⟩
  · show (its.toArray.extract 0 (if i < 0 then (i + (its.toArray.size : Int)).toNat else min i.toNat its.toArray.size)).push u2 ++ its.toArray.extract (if i < 0 then (i + (its.toArray.size : Int)).toNat else min i.toNat its.toArray.size) = _
    rw [if_neg (by omega), kl_ins_eq, List.size_toArray]
  · unfold insV
    rw [hl]
    exact (r.take _).append (.cons ru (r.drop _))
  · unfold insV
    rw [List.length_append, List.length_cons, List.length_take, List.length_drop]
    omega
/-- the items of two lists, one by one: both flat, or one and the same -/
def EqF (xs ys : List V) (f : Nat → Bool) : Prop := ∀ (j : Nat) (x y : V), xs[j]? = some x → ys[j]? = some y → (flatV x = true ∧ flatV y = true ∧ f j = eqV x y) ∨ (∃ a, x = .ref a ∧ y = .ref a ∧ f j = true)
theorem eqF_at {A : Around} {s : Shared} {xs ys : List V} {its its2 : List Value} {f : Nat → Bool} (r : Vals xs its) (r2 : Vals ys its2) (h : EqF xs ys f) :
    ∀ j (h1 : j < its.toArray.size) (h2 : j < its2.toArray.size), SeqAt.EqAt A s its.toArray[j] its2.toArray[j] (f j) := fun j h1 h2 => by
  have h1' : j < xs.length := by have := r.length; simp at h1; omega
  have h2' : j < ys.length := by have := r2.length; simp at h2; omega
  obtain ⟨a1, e1, q1⟩ := r.get (i := j) (x := xs[j]) (by simp [h1'])
  obtain ⟨a2, e2, q2⟩ := r2.get (i := j) (x := ys[j]) (by simp [h2'])
  have g1 : its.toArray[j] = a1 := by simpa [List.getElem?_eq_some_iff] using (List.getElem?_eq_some_iff.mp e1).2
  have g2 : its2.toArray[j] = a2 := by simpa [List.getElem?_eq_some_iff] using (List.getElem?_eq_some_iff.mp e2).2
  rw [g1, g2]
  rcases h j xs[j] ys[j] (by simp [h1']) (by simp [h2']) with ⟨f1, f2, ef⟩ | ⟨a, ex, ey, ef⟩
  · rw [ef]; exact eqAt_V q1 q2 f1 f2
  · rw [ef]
    rw [ex] at q1
    rw [ey] at q2
    cases q1
    cases q2
    exact SeqAt.EqAt.same _
inductive rEqL (K : Frag) (x : V) (y : V) (H : Hp) (Q : VK) : Prop
  | mk (p : _) (q : _) (xs : _) (ys : _) (f : _) (_ : x = .ref p) (_ : y = .ref q) (_ : SqL K H p xs) (_ : SqL K H q ys) (_ : EqF xs ys f) (_ : Q (.bl (decide (xs.length = ys.length) && (List.range xs.length).all f)) H) : rEqL K x y H Q
theorem op_eq_listK (K : Frag) (hu : X.A.units < cLine) (hK : X.K = K := by rfl) : OpR X (compareOp .Eq) (rEqL K) := by
  subst hK
  intro pins s σ H x y v u Q I rx ry h
  obtain ⟨p, q, xs, ys, f, rfl, rfl, hp, hq, hf, k⟩ := h
  cases rx
  cases ry
  obtain ⟨its, r, pl, hz⟩ := I.list hp
  obtain ⟨its2, r2, pl2, hz2⟩ := I.list hq
  have l1 := r.length
  have l2 := r2.length
  obtain ⟨⟨cls, dd, data, sl⟩, ho, hc, n, hd⟩ := id pl.isList
  obtain ⟨⟨cls2, dd2, data2, sl2⟩, ho2, hc2, n2, hd2⟩ := id pl2.isList
  simp only at hc hd hc2 hd2
  subst hc hd hc2 hd2
  by_cases e : xs.length = ys.length
  · have hsz : its.toArray.size = its2.toArray.size := by rw [List.size_toArray, List.size_toArray]; omega
    refine richCompare_meets_room (op := .Eq) ⟨_, ho, rfl⟩ ⟨_, ho2, rfl⟩ F.slot_list_eq F.entry_list_eq (F.args_list_eq_2 _ _) (SeqAt.list_eqAt p q its.toArray its2.toArray n n2 dd dd2 sl sl2 hsz f) ⟨ho, ho2, eqF_at r r2 hf, ?_⟩ hu
    rw [decide_eq_true e, Bool.true_and] at k
    refine ⟨(fun x => nomatch x), .bl ((List.range xs.length).all f), H, I, ?_, k⟩
    rw [List.size_toArray, ← l1]; rfl
  · have hsz : (its.toArray.size != its2.toArray.size) = true := by
      rw [List.size_toArray, List.size_toArray]
      simp; omega
    refine richCompare_meets_room (op := .Eq) ⟨_, ho, rfl⟩ ⟨_, ho2, rfl⟩ F.slot_list_eq F.entry_list_eq (F.args_list_eq_2 _ _) (SeqAt.list_eq_lengthsAt p q its.toArray its2.toArray n n2 dd dd2 sl sl2 hsz) ⟨ho, ho2, ?_⟩ hu
    rw [decide_eq_false e, Bool.false_and] at k
    exact ⟨(fun x => nomatch x), .bl false, H, I, rfl, k⟩
inductive rNeL (K : Frag) (x : V) (y : V) (H : Hp) (Q : VK) : Prop
  | mk (p : _) (q : _) (xs : _) (ys : _) (f : _) (_ : x = .ref p) (_ : y = .ref q) (_ : SqL K H p xs) (_ : SqL K H q ys) (_ : EqF xs ys f) (_ : Q (.bl (!(decide (xs.length = ys.length) && (List.range xs.length).all f))) H) : rNeL K x y H Q
theorem op_ne_listK (K : Frag) (hu : X.A.units < cLine) (hK : X.K = K := by rfl) : OpR X (compareOp .NotEq) (rNeL K) := by
  subst hK
  intro pins s σ H x y v u Q I rx ry h
  obtain ⟨p, q, xs, ys, f, rfl, rfl, hp, hq, hf, k⟩ := h
  cases rx
  cases ry
  obtain ⟨its, r, pl, hz⟩ := I.list hp
  obtain ⟨its2, r2, pl2, hz2⟩ := I.list hq
  have l1 := r.length
  have l2 := r2.length
  obtain ⟨⟨cls, dd, data, sl⟩, ho, hc, n, hd⟩ := id pl.isList
  obtain ⟨⟨cls2, dd2, data2, sl2⟩, ho2, hc2, n2, hd2⟩ := id pl2.isList
  simp only at hc hd hc2 hd2
  subst hc hd hc2 hd2
  by_cases e : xs.length = ys.length
  · have hsz : its.toArray.size = its2.toArray.size := by rw [List.size_toArray, List.size_toArray]; omega
    refine richCompare_meets_room (op := .NotEq) ⟨_, ho, rfl⟩ ⟨_, ho2, rfl⟩ F.slot_list_ne F.entry_list_ne (F.args_list_ne_2 _ _) (SeqAt.list_neAt p q its.toArray its2.toArray n n2 dd dd2 sl sl2 hsz f) ⟨ho, ho2, eqF_at r r2 hf, ?_⟩ hu
    rw [decide_eq_true e, Bool.true_and] at k
    refine ⟨(fun x => nomatch x), .bl (!(List.range xs.length).all f), H, I, ?_, k⟩
    rw [List.size_toArray, ← l1]; rfl
  · have hsz : (its.toArray.size != its2.toArray.size) = true := by
      rw [List.size_toArray, List.size_toArray]
      simp; omega
    refine richCompare_meets_room (op := .NotEq) ⟨_, ho, rfl⟩ ⟨_, ho2, rfl⟩ F.slot_list_ne F.entry_list_ne (F.args_list_ne_2 _ _) (SeqAt.list_ne_lengthsAt p q its.toArray its2.toArray n n2 dd dd2 sl sl2 hsz) ⟨ho, ho2, ?_⟩ hu
    rw [decide_eq_false e, Bool.false_and] at k
    exact ⟨(fun x => nomatch x), .bl true, H, I, rfl, k⟩
end
end L2
namespace L2
open PySem PySem.Spec PyProof.Rows PySem.W PySem.Calls
section
variable {X : Cx}
end
end L2

set_option Elab.async false
set_option linter.all false
set_option maxRecDepth 100000
set_option maxHeartbeats 4000000
/-! cases, pairs, ways -/
namespace QF
open PySem L2
abbrev Pr := Int × Int
def prV (p : Pr) : List V := [.int p.1, .int p.2]
def Prs (H : Hp) (vs : List V) (ps : List Pr) : Prop := vs.length = ps.length ∧ ∀ (i : Nat) (p : Pr), ps[i]? = some p → ∃ t, vs[i]? = some (V.ref t) ∧ H t = some (.tup (prV p))
theorem Prs.nil {H : Hp} : Prs H [] [] := ⟨rfl, fun i f e => by simp at e⟩
theorem Prs.tups {H H' : Hp} {xs : List V} {fs : List Pr} (T : Prs H xs fs) (k : Tups H H') : Prs H' xs fs := ⟨T.1, fun i f e => let ⟨b, h1, h2⟩ := T.2 i f e; ⟨b, h1, k _ _ h2⟩⟩
theorem Prs.same {H H' : Hp} {xs : List V} {fs : List Pr} (t : Prs H xs fs) (s : Same H H') : Prs H' xs fs := t.tups (Tups.same s)
theorem Prs.append {H : Hp} {xs ys : List V} {fs gs : List Pr} (T : Prs H xs fs) (U : Prs H ys gs) : Prs H (xs ++ ys) (fs ++ gs) := by
  refine ⟨by simp [T.1, U.1], fun i p e => ?_⟩
  by_cases h : i < fs.length
  · rw [List.getElem?_append_left h] at e
    obtain ⟨b, h1, h2⟩ := T.2 i p e
    exact ⟨b, by rw [List.getElem?_append_left (by rw [T.1]; exact h)]; exact h1, h2⟩
  · rw [List.getElem?_append_right (by omega)] at e
    obtain ⟨b, h1, h2⟩ := U.2 _ p e
    exact ⟨b, by rw [List.getElem?_append_right (by rw [T.1]; omega), T.1]; exact h1, h2⟩
theorem Prs.one {H : Hp} {t : Addr} {p : Pr} (ht : H t = some (.tup (prV p))) : Prs H [.ref t] [p] := by
  refine ⟨rfl, fun i q e => ?_⟩
  match i, e with
  | 0, e => cases e; exact ⟨t, rfl, ht⟩
  | i + 1, e => simp at e
theorem Prs.snoc {H : Hp} {xs : List V} {fs : List Pr} {t : Addr} {f : Pr} (T : Prs H xs fs) (ht : H t = some (.tup (prV f))) : Prs H (xs ++ [.ref t]) (fs ++ [f]) := T.append (.one ht)
theorem Prs.take {H : Hp} {xs : List V} {fs : List Pr} (T : Prs H xs fs) (k : Nat) : Prs H (xs.take k) (fs.take k) := by
  refine ⟨by simp [T.1], fun i p e => ?_⟩
  rw [List.getElem?_take] at e
  split at e
  · rename_i h
    obtain ⟨b, h1, h2⟩ := T.2 i p e
    exact ⟨b, by rw [List.getElem?_take, if_pos h]; exact h1, h2⟩
  · cases e
theorem Prs.drop {H : Hp} {xs : List V} {fs : List Pr} (T : Prs H xs fs) (k : Nat) : Prs H (xs.drop k) (fs.drop k) := by
  refine ⟨by simp [T.1], fun i p e => ?_⟩
  rw [List.getElem?_drop] at e
  obtain ⟨b, h1, h2⟩ := T.2 _ p e
  exact ⟨b, by rw [List.getElem?_drop]; exact h1, h2⟩
theorem Prs.ins {H : Hp} {xs : List V} {fs : List Pr} {t : Addr} {p : Pr} {i : Int} (T : Prs H xs fs) (ht : H t = some (.tup (prV p))) : ∃ gs, Prs H (insV xs i (.ref t)) gs ∧ gs.length = fs.length + 1 := by
  refine ⟨fs.take (min i.toNat xs.length) ++ ([p] ++ fs.drop (min i.toNat xs.length)), (T.take _).append ((Prs.one ht).append (T.drop _)), ?_⟩
  rw [List.length_append, List.length_append, List.length_take, List.length_drop]
  simp
  omega
theorem Prs.set {H : Hp} {xs : List V} {fs : List Pr} {t : Addr} {f : Pr} {j : Nat} (T : Prs H xs fs) (ht : H t = some (.tup (prV f))) : Prs H (xs.set j (.ref t)) (fs.set j f) := by
  refine ⟨by simp [T.1], fun i g e => ?_⟩
  by_cases h : j = i
  · subst h
    have hj : j < fs.length := by
      have := (List.getElem?_eq_some_iff.mp e).1
      simpa using this
    rw [List.getElem?_set_self hj] at e
    cases e
    exact ⟨t, by rw [List.getElem?_set_self (by rw [T.1]; exact hj)], ht⟩
  · rw [List.getElem?_set_ne h] at e
    obtain ⟨b, h1, h2⟩ := T.2 i g e
    exact ⟨b, by rw [List.getElem?_set_ne h]; exact h1, h2⟩
/-- the k-th pair -/
def pr (ps : List Pr) (k : Nat) : Pr := ps.getD k (0, 0)
theorem pr_at {ps : List Pr} {k : Nat} (h : k < ps.length) : ps[k]? = some (pr ps k) := by
  simp [pr, h]
theorem Prs.atN {H : Hp} {xs : List V} {ps : List Pr} (T : Prs H xs ps) {k : Nat} (h : k < ps.length) : ∃ t, xs[k]? = some (V.ref t) ∧ H t = some (.tup [.int (pr ps k).1, .int (pr ps k).2]) := T.2 k _ (pr_at h)
theorem pr_take {ps : List Pr} {k n : Nat} (h : k < n) : pr (ps.take n) k = pr ps k := by
  simp [pr, List.getD_eq_getElem?_getD, List.getElem?_take, h]
theorem pr_snoc {ps : List Pr} {p : Pr} {k : Nat} (h : k < ps.length) : pr (ps ++ [p]) k = pr ps k := by
  simp [pr, List.getD_eq_getElem?_getD, List.getElem?_append_left h]
theorem pr_last {ps : List Pr} {p : Pr} : pr (ps ++ [p]) ps.length = p := by
  simp [pr, List.getD_eq_getElem?_getD]
structure Case where
  xs : List Str
  ys : List Str
  same : Int
  out : Int
  into : Int
  least : Int
  fs : List Form
structure CaseL (H : Hp) (a : Addr) (c : Case) (f g m l : Addr) (vs : List V) : Prop where
  ca : H a = some (.lst [.ref f, .ref g, .ref m, .ref l])
  fi : H f = some (.lst (c.xs.map V.str))
  se : H g = some (.lst (c.ys.map V.str))
  nu : H m = some (.lst [.int c.same, .int c.out, .int c.into, .int c.least])
  ne : H l = some (.lst vs)
  tr : Trips H vs c.fs
theorem CaseL.keep {H H' : Hp} {a : Addr} {c : Case} {f g m l : Addr} {vs : List V} (C : CaseL H a c f g m l vs) (s : Same H H') : CaseL H' a c f g m l vs := ⟨s _ _ C.ca, s _ _ C.fi, s _ _ C.se, s _ _ C.nu, s _ _ C.ne, C.tr.same s⟩
structure CaseOk (most : Nat) (c : Case) : Prop where
  x : c.xs.length ≤ most
  y : c.ys.length ≤ most
  good : goodNear c.fs = true
  same : 1 ≤ c.same ∧ c.same ≤ 999999
  out : 0 ≤ c.out ∧ c.out ≤ 999999
  into : 0 ≤ c.into ∧ c.into ≤ 999999
  least : 1 ≤ c.least ∧ c.least ≤ 999999
def wd (xs : List Str) (i : Int) : Option Str := if 0 ≤ i then xs[i.toNat]? else none
theorem wd_nat {xs : List Str} {i : Nat} : wd xs (i : Int) = xs[i]? := by simp [wd]
theorem wd_in {xs : List Str} {i : Int} (h0 : 0 ≤ i) (h : i < (xs.length : Int)) : ∃ x, wd xs i = some x ∧ atI (xs.map V.str) i = some (.str x) := by
  obtain ⟨j, rfl⟩ := Int.eq_ofNat_of_zero_le h0
  have hj : j < xs.length := by omega
  exact ⟨xs[j], by rw [wd_nat]; simp [hj], atI_nat (by simp [hj])⟩
theorem wd_some {xs : List Str} {i : Int} {x : Str} (h : wd xs i = some x) : 0 ≤ i ∧ i < (xs.length : Int) := by
  unfold wd at h
  split at h
  · have := (List.getElem?_eq_some_iff.mp h).1
    omega
  · cases h
def Case.pw (c : Case) (p : Pr) : Option Int := (wd c.xs p.1).bind fun x => (wd c.ys p.2).bind fun y => pairW c.same c.fs x y
theorem Case.pw_of {c : Case} {p : Pr} {x y : Str} (h1 : wd c.xs p.1 = some x) (h2 : wd c.ys p.2 = some y) : c.pw p = pairW c.same c.fs x y := by simp [Case.pw, h1, h2]
theorem Case.pw_in {c : Case} {p : Pr} {w : Int} (h : c.pw p = some w) : (0 ≤ p.1 ∧ p.1 < (c.xs.length : Int)) ∧ (0 ≤ p.2 ∧ p.2 < (c.ys.length : Int)) := by
  unfold Case.pw at h
  cases e1 : wd c.xs p.1 with
  | none => rw [e1] at h; cases h
  | some x =>
    cases e2 : wd c.ys p.2 with
    | none => rw [e1, e2] at h; cases h
    | some y => exact ⟨wd_some e1, wd_some e2⟩
theorem Case.pw_out {c : Case} {p : Pr} (h : ¬ ((0 ≤ p.1 ∧ p.1 < (c.xs.length : Int)) ∧ (0 ≤ p.2 ∧ p.2 < (c.ys.length : Int)))) : c.pw p = none := by
  cases e : c.pw p with
  | none => rfl
  | some w => exact absurd (c.pw_in e) h
def stepOk (q p : Pr) : Bool := decide (q.1 < p.1) && decide (q.2 < p.2)
def Case.gap (c : Case) (q p : Pr) : Int := c.out * (p.1 - q.1 - 1) + c.into * (p.2 - q.2 - 1)
def goodAt (c : Case) (ps : List Pr) (k : Nat) : Bool := (c.pw (pr ps k)).isSome && (decide (k = 0) || stepOk (pr ps (k - 1)) (pr ps k))
def goodTo (c : Case) (ps : List Pr) (n : Nat) : Prop := ∀ k, k < n → goodAt c ps k = true
def isWay (c : Case) (ps : List Pr) : Bool := !ps.isEmpty && (List.range ps.length).all (goodAt c ps)
def worthAt (c : Case) (ps : List Pr) : Nat → Int
  | 0 => (c.pw (pr ps 0)).getD 0
  | k + 1 => (c.pw (pr ps (k + 1))).getD 0 + worthAt c ps k - c.gap (pr ps k) (pr ps (k + 1))
def rowOf (c : Case) (ps : List Pr) : List Int := (List.range ps.length).map (worthAt c ps)
theorem isWay_yes {c : Case} {ps : List Pr} (h : ps ≠ []) (g : goodTo c ps ps.length) : isWay c ps = true := by
  have h1 : ps.isEmpty = false := by simpa using h
  have h2 : (List.range ps.length).all (goodAt c ps) = true := List.all_eq_true.mpr fun k hk => g k (by simpa using hk)
  simp [isWay, h1, h2]
theorem isWay_no {c : Case} {ps : List Pr} {k : Nat} (hk : k < ps.length) (g : goodAt c ps k = false) : isWay c ps = false := by
  have h2 : (List.range ps.length).all (goodAt c ps) = false := by
    rw [Bool.eq_false_iff]
    intro z
    rw [List.all_eq_true] at z
    rw [z k (by simpa using hk)] at g
    cases g
  simp [isWay, h2]
theorem isWay_nil {c : Case} : isWay c [] = false := rfl
theorem isWay_good {c : Case} {ps : List Pr} (h : isWay c ps = true) : ps ≠ [] ∧ goodTo c ps ps.length := by
  simp only [isWay, Bool.and_eq_true, List.all_eq_true] at h
  refine ⟨fun z => by subst z; simp at h, fun k hk => h.2 k (by simpa using hk)⟩
theorem goodTo.next {c : Case} {ps : List Pr} {n : Nat} (h : goodTo c ps n) (g : goodAt c ps n = true) : goodTo c ps (n + 1) := fun k hk => by
  by_cases e : k = n
  · rw [e]; exact g
  · exact h k (by omega)
theorem good_pw {c : Case} {ps : List Pr} {k : Nat} (h : goodAt c ps k = true) : ∃ w, c.pw (pr ps k) = some w := by
  simp only [goodAt, Bool.and_eq_true] at h
  exact Option.isSome_iff_exists.mp h.1
theorem worth_take {c : Case} {ps : List Pr} {n : Nat} : ∀ {k : Nat}, k < n → worthAt c (ps.take n) k = worthAt c ps k
  | 0, h => by simp only [worthAt]; rw [pr_take h]
  | k + 1, h => by simp only [worthAt]; rw [pr_take h, pr_take (by omega : k < n), worth_take (by omega : k < n)]
theorem isWay_take {c : Case} {ps : List Pr} (h : isWay c ps = true) {n : Nat} (hn : 0 < n) : isWay c (ps.take n) = true := by
  obtain ⟨h1, h2⟩ := isWay_good h
  have hp : 0 < ps.length := List.length_pos_iff.mpr h1
  refine isWay_yes (fun z => ?_) fun k hk => ?_
  · have : (ps.take n).length = 0 := by rw [z]; rfl
    rw [List.length_take] at this
    omega
  · rw [List.length_take] at hk
    have := h2 k (by omega)
    simp only [goodAt] at this ⊢
    rw [pr_take (by omega : k < n), pr_take (by omega : k - 1 < n)]
    exact this
theorem rowOf_len (c : Case) (ps : List Pr) : (rowOf c ps).length = ps.length := by simp [rowOf]
theorem good_snoc {c : Case} {ps : List Pr} {p : Pr} (g : goodTo c ps ps.length) (h : (c.pw p).isSome = true) (f : ps = [] ∨ stepOk (pr ps (ps.length - 1)) p = true) : goodTo c (ps ++ [p]) (ps.length + 1) := fun k hk => by
  by_cases e : k < ps.length
  · have := g k e
    simp only [goodAt] at this ⊢
    rw [pr_snoc e]
    by_cases k0 : k = 0
    · subst k0; simpa using this
    · rw [pr_snoc (by omega : k - 1 < ps.length)]; exact this
  · have : k = ps.length := by omega
    subst this
    simp only [goodAt]
    rw [pr_last, h]
    rcases f with f | f
    · subst f; rfl
    · by_cases e0 : ps.length = 0
      · simp [e0]
      · rw [pr_snoc (by omega), f]; simp
def MadeAt (H H' : Hp) (b : Addr) (ps : List Pr) (D : Prop) : Prop := Same H H' ∧ H b = none ∧ ∃ xs qs, H' b = some (.lst xs) ∧ Prs H' xs qs ∧ qs.length ≤ ps.length + 1 ∧ (¬ D → qs.length = ps.length)
theorem MadeAt.weak {H H' : Hp} {b : Addr} {ps : List Pr} {D D' : Prop} (m : MadeAt H H' b ps D) (h : D → D') : MadeAt H H' b ps D' := by
  obtain ⟨a, b, xs, qs, h1, h2, h3, h4⟩ := m
  exact ⟨a, b, xs, qs, h1, h2, h3, fun z => h4 fun y => z (h y)⟩
theorem MadeAt.put {H H' : Hp} {b : Addr} {ps : List Pr} {D' : Prop} {xs ys : List V} {gs : List Pr} (s : Same H H') (hb : H b = none) (h1 : H' b = some (.lst xs)) (P : Prs H' ys gs) (hl : gs.length ≤ ps.length + 1) (d : D' ∨ gs.length = ps.length) : MadeAt H (upd H' b (.lst ys)) b ps D' :=
  ⟨s.upd2 hb, hb, ys, gs, upd_same, P.tups (Tups.lst h1), hl, fun z => d.resolve_left z⟩
theorem cut_to {xs : List V} {i : Int} (h0 : 0 ≤ i) (h : i ≤ (xs.length : Int)) : cutV xs none (some i) = xs.take i.toNat := by
  have e0 : HT.sIx xs.length 0 none = 0 := by simp [HT.sIx]
  unfold cutV
  rw [e0, sIx_pos h0 h]
  simp
theorem cut_from {xs : List V} {i : Int} (h0 : 0 ≤ i) (h : i ≤ (xs.length : Int)) : cutV xs (some i) none = xs.drop i.toNat := by
  have e0 : HT.sIx xs.length xs.length none = xs.length := by simp [HT.sIx]
  unfold cutV
  rw [e0, sIx_pos h0 h]
  exact List.take_of_length_le (by rw [List.length_drop]; omega)
/-! the program's terms -/
structure NumOk (c : Case) : Prop where
  out : 0 ≤ c.out ∧ c.out ≤ 999999
  into : 0 ≤ c.into ∧ c.into ≤ 999999
theorem CaseOk.num {m : Nat} {c : Case} (h : CaseOk m c) : NumOk c := ⟨h.out, h.into⟩
def TFor (H : Hp) (CT t : Addr) (c : Case) : Prop := ∃ n dx l d vs, TermsAt H CT t n c.fs dx l d vs ∧ n.same = c.same ∧ n.out = c.out ∧ n.into = c.into ∧ n.least = c.least
theorem TFor.keep {H H' : Hp} {CT t : Addr} {c : Case} (T : TFor H CT t c) (s : Same H H') : TFor H' CT t c := by
  obtain ⟨n, dx, l, d, vs, T, r⟩ := T
  exact ⟨n, dx, l, d, vs, T.same s, r⟩
/-! promises -/
inductive sp_place (vs : List V) (H : Hp) (Q : VK) (u3 : XK) : Prop
  | mk (p : Int) (a : Addr) (xs : List V) (_ : vs = [.int p, .ref a]) (_ : H a = some (.lst xs)) (_ : Q (.bl (decide (0 ≤ p) && decide (p < (xs.length : Int)))) H) : sp_place  vs H Q u3
inductive sp_standing (CT CW : Addr) (vs : List V) (H : Hp) (Q : VK) (E : XK) : Prop
  | mk (f g t p : Addr) (c : Case) (q : Pr) (_ : vs = [.ref f, .ref g, .ref t, .ref p]) (_ : H f = some (.lst (c.xs.map V.str))) (_ : H g = some (.lst (c.ys.map V.str))) (_ : TFor H CT t c) (_ : H p = some (.tup (prV q))) (_ : (∀ w, c.pw q = some w → ∀ H', Same H H' → Q (.int w) H')) (_ : (c.pw q = none → ∀ H', Same H H' → E (.ref CW) none H')) : sp_standing CT CW vs H Q E
inductive sp_price (CT CW : Addr) (vs : List V) (H : Hp) (Q : VK) (E : XK) : Prop
  | mk (t p r : Addr) (c : Case) (q s : Pr) (_ : vs = [.ref t, .ref p, .ref r]) (_ : TFor H CT t c) (_ : NumOk c) (_ : H p = some (.tup (prV q))) (_ : H r = some (.tup (prV s))) (_ : (stepOk q s = true → Q (.int (c.gap q s)) H)) (_ : (stepOk q s = false → E (.ref CW) none H)) : sp_price CT CW vs H Q E
inductive sp_wrow (CT CW : Addr) (vs : List V) (H : Hp) (Q : VK) (E : XK) : Prop
  | mk (f g t w : Addr) (c : Case) (us : List V) (ps : List Pr) (_ : vs = [.ref f, .ref g, .ref t, .ref w]) (_ : H f = some (.lst (c.xs.map V.str))) (_ : H g = some (.lst (c.ys.map V.str))) (_ : TFor H CT t c) (_ : NumOk c) (_ : H w = some (.lst us)) (_ : Prs H us ps) (_ : ps.length ≤ 10000) (_ : (isWay c ps = true → ∀ H' r, Same H H' → H r = none → H' r = some (.lst ((rowOf c ps).map V.int)) → Q (.ref r) H')) (_ : (isWay c ps = false → ∀ H', Same H H' → E (.ref CW) none H')) : sp_wrow CT CW vs H Q E
inductive sp_wworth (CT CW : Addr) (vs : List V) (H : Hp) (Q : VK) (E : XK) : Prop
  | mk (f g t w : Addr) (c : Case) (us : List V) (ps : List Pr) (_ : vs = [.ref f, .ref g, .ref t, .ref w]) (_ : H f = some (.lst (c.xs.map V.str))) (_ : H g = some (.lst (c.ys.map V.str))) (_ : TFor H CT t c) (_ : NumOk c) (_ : H w = some (.lst us)) (_ : Prs H us ps) (_ : ps.length ≤ 10000) (_ : (isWay c ps = true → ∀ H', Same H H' → Q (.int (worthAt c ps (ps.length - 1))) H')) (_ : (isWay c ps = false → ∀ H', Same H H' → E (.ref CW) none H')) : sp_wworth CT CW vs H Q E
inductive sp_quote (K : W.Frag) (vs : List V) (H : Hp) (Q : VK) (u3 : XK) : Prop
  | mk (a b x : Addr) (ns : List Int) (zs ws : List Str) (c p m : Int) (_ : vs = [.ref a, .int c, .int p, .int m, .ref x, .ref b]) (_ : SqL K H a (ns.map V.int)) (_ : H b = some (.lst (zs.map V.str))) (_ : H x = some (.lst (ws.map V.str))) (_ : (1 ≤ zs.length ∧ zs.length ≤ 1000)) (_ : ws.length ≤ 1000) (_ : (∀ w ∈ ws, w ∈ zs)) (_ : 0 ≤ p) (_ : 0 ≤ m) (_ : m ≤ 1000) (_ : ∀ H' l (ws : List Str), Same H H' → H l = none → H' l = some (.lst (ws.map V.str)) → ws.length = m.toNat → (∀ w ∈ ws, w ∈ zs) → Q (.ref l) H') : sp_quote K vs H Q u3
inductive sp_case (K : W.Frag) (vs : List V) (H : Hp) (Q : VK) (u3 : XK) : Prop
  | mk (a : Addr) (ns : List Int) (most : Int) (_ : vs = [.ref a, .int most]) (_ : SqL K H a (ns.map V.int)) (_ : 0 ≤ most) (_ : most ≤ 40) (_ : ∀ H' b c f g m l us, Same H H' → H b = none → CaseL H' b c f g m l us → CaseOk most.toNat c → Q (.ref b) H') : sp_case K vs H Q u3
inductive sp_ldrawn (vs : List V) (H : Hp) (Q : VK) (u3 : XK) : Prop
  | mk (a : Addr) (k : Int) (c : Case) (f g m l : Addr) (us : List V) (_ : vs = [.ref a, .int k]) (_ : CaseL H a c f g m l us) (_ : c.xs.length ≤ 40) (_ : c.ys.length ≤ 40) (_ : ∀ H' b xs ps, Same H H' → H b = none → H' b = some (.lst xs) → Prs H' xs ps → ps.length ≤ 2000 → goodTo c ps ps.length → Q (.ref b) H') : sp_ldrawn  vs H Q u3
inductive sp_lterms (C : Addr) (vs : List V) (H : Hp) (Q : VK) (u3 : XK) : Prop
  | mk (a : Addr) (c : Case) (f g m l : Addr) (us : List V) (most : Nat) (_ : vs = [.ref a]) (_ : CaseL H a c f g m l us) (_ : CaseOk most c) (_ : ∀ H' t, Same H H' → TFor H' C t c → Q (.ref t) H') : sp_lterms C vs H Q u3
inductive sp_isway (vs : List V) (H : Hp) (Q : VK) (u3 : XK) : Prop
  | mk (a w : Addr) (c : Case) (f g m l : Addr) (us : List V) (ws : List V) (ps : List Pr) (_ : vs = [.ref a, .ref w]) (_ : CaseL H a c f g m l us) (_ : H w = some (.lst ws)) (_ : Prs H ws ps) (_ : ps.length ≤ 10000) (_ : ∀ H', Same H H' → Q (.bl (isWay c ps)) H') : sp_isway  vs H Q u3
inductive sp_lspoiled (vs : List V) (H : Hp) (Q : VK) (u3 : XK) : Prop
  | mk (a w : Addr) (c : Case) (f g m l : Addr) (us : List V) (ws : List V) (ps : List Pr) (pick k : Int) (_ : vs = [.ref a, .ref w, .int pick, .int k]) (_ : CaseL H a c f g m l us) (_ : H w = some (.lst ws)) (_ : Prs H ws ps) (_ : ps.length ≤ 2000) (_ : ∀ H' b xs qs, Same H H' → H' b = some (.lst xs) → Prs H' xs qs → qs.length ≤ 3000 → Q (.ref b) H') : sp_lspoiled  vs H Q u3
inductive sp_lworth (vs : List V) (H : Hp) (Q : VK) (u3 : XK) : Prop
  | mk (a w : Addr) (c : Case) (f g m l : Addr) (us : List V) (ws : List V) (ps : List Pr) (_ : vs = [.ref a, .ref w]) (_ : CaseL H a c f g m l us) (_ : NumOk c) (_ : H w = some (.lst ws)) (_ : Prs H ws ps) (_ : ps.length ≤ 10000) (_ : isWay c ps = true) (_ : Q (.int (worthAt c ps (ps.length - 1))) H) : sp_lworth  vs H Q u3
end QF

set_option Elab.async false
set_option linter.all false
set_option maxRecDepth 100000
set_option maxHeartbeats 4000000
/-! max(xs, default=None), pairs compared, xs[::-1], defs with defaults, blocks over enumerate -/
namespace L2
open PySem PySem.Spec PyProof.Rows PySem.W PySem.Calls
section
variable {pg : Program} {wd : World} {Ar : Around} {Rs : Result → Shared → Prop} {it : Addr} {fp wr : List Addr} {n : Nat} {Pv : Nat → Value → Prop} {Sv : Nat → Heap → Prop}
end
section
variable {X : Cx}
open Classical in
end
end L2

set_option Elab.async false
set_option linter.all false
set_option maxRecDepth 100000
set_option maxHeartbeats 4000000
/-! ways over open pairs, and the greatest worths -/
namespace QF
open PySem L2
/-! ways over open pairs -/
/-! the program's tables -/
end QF

set_option Elab.async false
set_option linter.all false
set_option maxRecDepth 100000
set_option maxHeartbeats 4000000
/-! all ways, listed; the tables of the law; promises of the tables' defs -/
namespace QF
open PySem L2
/-! lists of ways -/
/-! the greatest so far -/
/-! tables in the heap -/
/-! trails -/
end QF

set_option Elab.async false
set_option linter.all false
set_option maxRecDepth 100000
set_option maxHeartbeats 4000000
namespace QF
open PySem L2
end QF

set_option Elab.async false
set_option linter.all false
set_option maxRecDepth 100000
set_option maxHeartbeats 4000000
namespace K09
open PySem L2 QF
def top (i : Nat) : Stmt := PySem.Challenge.pw_quotefind_k09_no_ways.main.body.getD i (.Pass ⟨0, 0, 0, 0⟩)
abbrev s_is_small_letter : Stmt := top 25
abbrev s_is_word : Stmt := top 26
abbrev s_is_between : Stmt := top 31
abbrev s_check_number : Stmt := top 32
abbrev s_check_near_form : Stmt := top 33
abbrev s_near_prices : Stmt := top 34
abbrev s_Terms___init__ : Stmt := inClass (top 35) 0
abbrev s_Terms_pair_worth : Stmt := inClass (top 35) 1
abbrev s_is_place : Stmt := top 18
abbrev s_standing_worth : Stmt := top 19
abbrev s_price_between : Stmt := top 20
abbrev s_way_row : Stmt := top 21
abbrev s_way_worth : Stmt := top 22
abbrev s__law_at : Stmt := top 37
abbrev s__law_whole : Stmt := top 38
abbrev s__law_bank : Stmt := top 39
abbrev s__law_book : Stmt := top 40
abbrev s__law_quote : Stmt := top 41
abbrev s__law_numbers : Stmt := top 42
abbrev s__law_near : Stmt := top 43
abbrev s__law_case : Stmt := top 44
abbrev s__law_pair : Stmt := top 45
abbrev s__law_worth : Stmt := top 46
abbrev s__law_drawn : Stmt := top 47
abbrev s__law_row : Stmt := top 48
abbrev s__law_kind : Stmt := top 49
abbrev s__law_terms : Stmt := top 50
abbrev s__law_is_way : Stmt := top 51
abbrev s__law_spoiled : Stmt := top 52
abbrev s_law : Stmt := top 53
section
variable {P : Program} {w : World} {K : W.Frag} {mg : Str → Option Value} {base : Heap}
variable {C_QuoteError C_BadWord C_BadBook C_BadTerms C_BadNear C_BadWay C_BadName C_BadYear C_NameTaken C_Full C_TooMany C_NoBook C_NoFinding C_HasLeft C_BadSearch C_Terms : Addr}
theorem sc_is_small_letter : FnScope ["sign"] ["sign"] (defScope s_is_small_letter) := ⟨rfl, rfl, rfl, by decide +kernel, rfl, by decide +kernel, by decide +kernel⟩
theorem ok_is_small_letter {f : Addr} {fd : FuncData} (F : Fun K "is_small_letter" "is_small_letter" s_is_small_letter f fd) (T : TB mg) : FnOk P w K mg base (CXF P w) true 1 f fd ["sign"] sp_low := by
  refine F.okX sc_is_small_letter (fun vs H Q E h => ?_) (fun cdv A outer s H vs Q E hr h hX => ?_)
  · obtain ⟨i, rfl, _⟩ := h
    rfl
  · obtain ⟨c, rfl, q⟩ := h
    refine ⟨_, (@pss_one _ _ _ (@ps_ret _ _ _ _ (@pe_and _ _ _ _ _ _ _ (@pe_cmpR _ _ _ _ _ _ _ _ op_le_str pe_str (@pv _ 0 _ _ (by rfl) (by first | exact Or.inl rfl | exact Or.inr (Or.inl rfl) | exact Or.inr (Or.inr rfl)) (by decide) (by decide)) (nomark _)) (@pe_one _ _ _ _ _ (@pe_cmpR _ _ _ _ _ _ _ _ op_le_str (@pv _ 0 _ _ (by rfl) (by first | exact Or.inl rfl | exact Or.inr (Or.inl rfl) | exact Or.inr (Or.inr rfl)) (by decide) (by decide)) pe_str (nomark _)))))), ?_⟩
    refine ⟨_, rfl, _, _, rfl, rfl, _, rfl, ?_⟩
    have q : Q (.bl (decide (97 ≤ c) && decide (c ≤ 122))) H := q
    rw [← le_a, ← le_z] at q
    refine ite2 (fun h => ?_) (fun h => ?_)
    · refine ⟨_, rfl, _, _, rfl, rfl, ?_⟩
      rw [h, Bool.true_and] at q
      exact q
    · rw [Bool.not_eq_true] at h
      rw [h, Bool.false_and] at q
      exact q
theorem sc_is_word : FnScope ["text"] ["text"] (defScope s_is_word) := ⟨rfl, rfl, rfl, by decide +kernel, rfl, by decide +kernel, by decide +kernel⟩
theorem ok_is_word {f : Addr} {fd : FuncData} (F : Fun K "is_word" "is_word" s_is_word f fd) (T : TB mg) (c_WORD_MOST : Con mg "WORD_MOST" (.int 12)) (D_is_small_letter : IsDef P w K mg base true 1 "is_small_letter" ["sign"] sp_low) : FnOk P w K mg base (CXF P w) true 2 f fd ["text"] sp_word := by
  refine F.okX sc_is_word (fun vs H Q E h => ?_) (fun cdv A outer s H vs Q E hr h hX => ?_)
  · obtain ⟨i, rfl, _⟩ := h
    rfl
  · obtain ⟨z, rfl, hz, q⟩ := h
    refine ⟨_, (@pss_cons _ _ _ _ _ (@ps_if _ _ _ _ _ _ _ _ (@PW.pt _ _ _ (@pw_or _ _ _ _ _ _ _ (@pt_cmpR _ _ _ _ _ _ _ _ op_lt (@pe_callB _ _ _ _ _ _ _ _ _ call_len_str (by exact rfl) T.n_len PyProof.Rows.Boot.«len» (@pa_c _ _ _ _ _ (@pv _ 0 _ _ (by rfl) (by first | exact Or.inl rfl | exact Or.inr (Or.inl rfl) | exact Or.inr (Or.inr rfl)) (by decide) (by decide)) pa_nil (by rfl)) (by decide) (by decide) (by rfl) (by rfl)) pe_int (nomark _)) (@pw_or1 _ _ _ _ (@pt_cmpR _ _ _ _ _ _ _ _ op_gt (@pe_callB _ _ _ _ _ _ _ _ _ call_len_str (by exact rfl) T.n_len PyProof.Rows.Boot.«len» (@pa_c _ _ _ _ _ (@pv _ 0 _ _ (by rfl) (by first | exact Or.inl rfl | exact Or.inr (Or.inl rfl) | exact Or.inr (Or.inr rfl)) (by decide) (by decide)) pa_nil (by rfl)) (by decide) (by decide) (by rfl) (by rfl)) (@pe_con' _ _ _ _ c_WORD_MOST (by rfl) (by decide)) (nomark _))))) (@pss_one _ _ _ (@ps_ret _ _ _ _ pe_bl)) pss_nil) (@pss_one _ _ _ (@ps_ret _ _ _ _ (@pe_callB _ _ _ _ _ _ _ _ _ (call_allK K rfl) (by exact rfl) T.n_all PyProof.Rows.Boot.«all» (@pa_c _ _ _ _ _ (@pe_comp _ _ _ _ _ _ _ _ _ _ _ _ _ _ (by exact rfl) (show CompScope ["text"] (defScope s_is_word) _ ["sign"] [] [] from ⟨rfl, by decide +kernel, by decide +kernel, by decide +kernel, rfl, rfl, by decide +kernel, by decide +kernel, by decide +kernel⟩) (@pi_str _ _ _ _ (@pv _ 0 _ _ (by rfl) (by first | exact Or.inl rfl | exact Or.inr (Or.inl rfl) | exact Or.inr (Or.inr rfl)) (by decide) (by decide))) (fun _ _ _ _ _ => (@pg_name _ _ (0) _ (show (["sign"] : List Str).Nodup by decide +kernel) (by exact rfl) (Or.inl rfl) (by first | exact .inl rfl | exact .inr rfl | assumption))) (fun _ _ _ _ _ => pts_nil) (fun _ _ _ _ _ => (@pe_def _ _ _ _ _ _ _ _ _ _ _ _ D_is_small_letter (hr.mono (by decide)) passF (@pa_c _ _ _ _ _ (@pv _ 0 _ _ (by rfl) (by first | exact Or.inl rfl | exact Or.inr (Or.inl rfl) | exact Or.inr (Or.inr rfl)) (by decide) (by decide)) pa_nil (by rfl)) (by rfl) (by decide) (by rfl) (by rfl))) (by intro _; rfl)) pa_nil (by rfl)) (by decide) (by decide) (by rfl) (by rfl))))), ?_⟩
    have hz' : z.length ≤ sizeLine := Nat.le_trans hz (by decide)
    refine ⟨_, rfl, z, rfl, hz', _, _, rfl, rfl, _, rfl, ?_⟩
    refine ite2 (fun h => ?_) (fun h => ?_)
    · have h : ((z.length : Nat) : Int) < 1 := by simpa using h
      refine iteT ?_
      have e : isW z = false := by
        have : ¬ 1 ≤ z.length := by omega
        simp [isW, this]
      have q := q H (Same.refl H)
      rw [e] at q
      exact q
    have h : ¬ ((z.length : Nat) : Int) < 1 := by simpa using h
    refine ⟨_, rfl, z, rfl, hz', _, _, rfl, rfl, _, rfl, ?_⟩
    refine ite2 (fun h2 => ?_) (fun h2 => ?_)
    · have h2 : (12 : Int) < ((z.length : Nat) : Int) := by simpa using h2
      have e : isW z = false := by
        have : ¬ z.length ≤ 12 := by omega
        simp [isW, this]
      have q := q H (Same.refl H)
      rw [e] at q
      exact q
    have h2 : ¬ (12 : Int) < ((z.length : Nat) : Int) := by simpa using h2
    have hl : z.length ≤ 12 := by omega
    have e : isW z = z.cps.toList.all low := by
      have h3 : 1 ≤ z.length := by omega
      simp [isW, h3, hl]
    -- the block
    refine ⟨_, rfl, z, rfl, fun D hD => ?_⟩
    refine comp_str (fun i ys σ H' => (∃ v, σ = [v]) ∧ ys = (z.cps.toList.take i).map (fun c => V.bl (low c)) ∧ H' = upd H D (.lst ys)) ⟨⟨_, rfl⟩, rfl, rfl⟩ ?_ ?_
    · rintro i c ys σ H' hc ⟨⟨v, rfl⟩, hy, rfl⟩
      refine gN_yes ?_
      refine ⟨_, rfl, c, rfl, upd_same, ?_, ⟨_, rfl⟩, ?_, ?_⟩
      · rw [hy, List.length_map, List.length_take]
        exact Nat.lt_of_le_of_lt (Nat.min_le_left _ _) (Nat.lt_of_lt_of_le (Nat.lt_of_lt_of_le (List.getElem?_eq_some_iff.mp hc).1 (by simpa [Str.length] using hl)) (by decide))
      · rw [hy, List.take_succ, hc]
        simp
      · rw [upd_upd]
    · rintro ys σ H' ⟨_, hy, rfl⟩
      have hy2 : ys = (z.cps.toList.map low).map V.bl := by
        rw [hy, List.take_of_length_le (by simp [Str.length])]
        simp
      rw [hy2]
      refine ⟨D, z.cps.toList.map low, rfl, SqL.of upd_same, ?_⟩
      have q := q _ (Same.upd hD : Same H (upd H D (.lst ((z.cps.toList.map low).map V.bl))))
      rw [e] at q
      have e3 : (z.cps.toList.map low).all id = z.cps.toList.all low := by rw [List.all_map]; rfl
      rw [← e3] at q
      exact q
theorem sc_is_between : FnScope ["low", "number", "high"] ["low", "number", "high"] (defScope s_is_between) := ⟨rfl, rfl, rfl, by decide +kernel, rfl, by decide +kernel, by decide +kernel⟩
theorem ok_is_between {f : Addr} {fd : FuncData} (F : Fun K "is_between" "is_between" s_is_between f fd) (T : TB mg) : FnOk P w K mg base (CXF P w) true 1 f fd ["low", "number", "high"] sp_between := by
  refine F.okX sc_is_between (fun vs H Q E h => ?_) (fun cdv A outer s H vs Q E hr h hX => ?_)
  · obtain ⟨l, n, h, rfl, _⟩ := h
    rfl
  · obtain ⟨l, n, h, rfl, q⟩ := h
    refine ⟨_, (@pss_one _ _ _ (@ps_ret _ _ _ _ (@pe_and _ _ _ _ _ _ _ (@pe_cmpR _ _ _ _ _ _ _ _ op_le (@pv _ 0 _ _ (by rfl) (by first | exact Or.inl rfl | exact Or.inr (Or.inl rfl) | exact Or.inr (Or.inr rfl)) (by decide) (by decide)) (@pv _ 1 _ _ (by rfl) (by first | exact Or.inl rfl | exact Or.inr (Or.inl rfl) | exact Or.inr (Or.inr rfl)) (by decide) (by decide)) (nomark _)) (@pe_one _ _ _ _ _ (@pe_cmpR _ _ _ _ _ _ _ _ op_le (@pv _ 1 _ _ (by rfl) (by first | exact Or.inl rfl | exact Or.inr (Or.inl rfl) | exact Or.inr (Or.inr rfl)) (by decide) (by decide)) (@pv _ 2 _ _ (by rfl) (by first | exact Or.inl rfl | exact Or.inr (Or.inl rfl) | exact Or.inr (Or.inr rfl)) (by decide) (by decide)) (nomark _)))))), ?_⟩
    refine ⟨_, rfl, _, rfl, _, _, rfl, rfl, _, rfl, ?_⟩
    refine ite2 (fun h1 => ?_) (fun h1 => ?_)
    · refine ⟨_, rfl, _, rfl, _, _, rfl, rfl, ?_⟩
      rw [h1, Bool.true_and] at q
      exact q
    · rw [Bool.not_eq_true] at h1
      rw [h1, Bool.false_and] at q
      exact q
theorem sc_check_number : FnScope ["name", "number", "low", "high"] ["name", "number", "low", "high"] (defScope s_check_number) := ⟨rfl, rfl, rfl, by decide +kernel, rfl, by decide +kernel, by decide +kernel⟩
theorem ok_check_number {f : Addr} {fd : FuncData} (F : Fun K "check_number" "check_number" s_check_number f fd) (T : TB mg) (D_is_between : IsDef P w K mg base true 1 "is_between" ["low", "number", "high"] sp_between) (e_BadTerms : Er K mg "BadTerms" C_BadTerms) : FnOk P w K mg base (CXF P w) true 2 f fd ["name", "number", "low", "high"] (sp_number C_BadTerms) := by
  refine F.okX sc_check_number (fun vs H Q E h => ?_) (fun cdv A outer s H vs Q E hr h hX => ?_)
  · obtain ⟨nm, n, l, h, rfl, _⟩ := h
    rfl
  · obtain ⟨nm, n, l, h, rfl, hn, hl, hh, q⟩ := h
    refine ⟨_, (@pss_one _ _ _ (@ps_if _ _ _ _ _ _ _ _ (@pt_not _ _ _ _ (@pt_val _ _ _ (@pe_def _ _ _ _ _ _ _ _ _ _ _ _ D_is_between (hr.mono (by decide)) passF (@pa_c _ _ _ _ _ (@pv _ 2 _ _ (by rfl) (by first | exact Or.inl rfl | exact Or.inr (Or.inl rfl) | exact Or.inr (Or.inr rfl)) (by decide) (by decide)) (@pa_c _ _ _ _ _ (@pv _ 1 _ _ (by rfl) (by first | exact Or.inl rfl | exact Or.inr (Or.inl rfl) | exact Or.inr (Or.inr rfl)) (by decide) (by decide)) (@pa_c _ _ _ _ _ (@pv _ 3 _ _ (by rfl) (by first | exact Or.inl rfl | exact Or.inr (Or.inl rfl) | exact Or.inr (Or.inr rfl)) (by decide) (by decide)) pa_nil (by rfl)) (by rfl)) (by rfl)) (by rfl) (by decide) (by rfl) (by rfl)) (by intro _; rfl))) (@pss_one _ _ _ (@ps_raise _ _ _ _ _ _ _ _ _ _ hX (by exact rfl) (by exact rfl) e_BadTerms.m e_BadTerms.e (@pa_c _ _ _ _ _ (@pe_joined _ _ _ _ _ _ (@pj_cons _ _ _ _ _ (@pe_fmt _ _ _ _ (@pv _ 0 _ _ (by rfl) (by first | exact Or.inl rfl | exact Or.inr (Or.inl rfl) | exact Or.inr (Or.inr rfl)) (by decide) (by decide))) (@pj_cons _ _ _ _ _ pe_str (@pj_cons _ _ _ _ _ (@pe_fmt _ _ _ _ (@pv _ 2 _ _ (by rfl) (by first | exact Or.inl rfl | exact Or.inr (Or.inl rfl) | exact Or.inr (Or.inr rfl)) (by decide) (by decide))) (@pj_cons _ _ _ _ _ pe_str (@pj_cons _ _ _ _ _ (@pe_fmt _ _ _ _ (@pv _ 3 _ _ (by rfl) (by first | exact Or.inl rfl | exact Or.inr (Or.inl rfl) | exact Or.inr (Or.inr rfl)) (by decide) (by decide))) pj_nil)))))) pa_nil (by rfl)) (by decide) (by rfl) (by rfl))) pss_nil)), ?_⟩
    refine ⟨_, rfl, _, rfl, _, rfl, l, n, h, rfl, ?_⟩
    refine ⟨_, rfl, ?_⟩
    refine ite2 (fun h1 => ?_) (fun h1 => ?_)
    · have h1 : inR l n h = false := (Bool.not_eq_true' _).mp h1
      rw [h1] at q
      have z1 := told_int (i := l) (by omega)
      have z2 := told_int (i := h) (by omega)
      have w1 : (Str.ofString " lies between ").length = 14 := by decide +kernel
      have w2 : (Str.ofString " and ").length = 5 := by decide +kernel
      have w3 := len_empty
      refine ⟨_, rfl, .inl ⟨nm, rfl, le_line (by omega), nm, rfl, le_line ?_, _, rfl, le_line ?_, _, rfl, .inr ⟨l, rfl, z1.1, _, rfl, le_line ?_, _, rfl, le_line ?_, _, rfl, .inr ⟨h, rfl, z2.1, _, rfl, le_line ?_, le_line ?_, one_line, ?_⟩⟩⟩⟩
      · rw [len_app]; omega
      · rw [len_app, len_app]; omega
      · rw [len_app, len_app, len_app]; omega
      · rw [len_app, len_app, len_app, len_app]; omega
      · rw [len_app, len_app, len_app, len_app, len_app]; omega
      · rw [len_app, len_app, len_app, len_app, len_app]; omega
      · exact q
    · have h1 : inR l n h = true := by
        have h1 : ¬ (!(inR l n h)) = true := h1
        simpa using h1
      rw [h1] at q
      exact q
theorem sc_check_near_form : FnScope ["x", "y", "price"] ["x", "y", "price"] (defScope s_check_near_form) := ⟨rfl, rfl, rfl, by decide +kernel, rfl, by decide +kernel, by decide +kernel⟩
theorem ok_check_near_form {f : Addr} {fd : FuncData} (F : Fun K "check_near_form" "check_near_form" s_check_near_form f fd) (T : TB mg) (c_WORTH_MOST : Con mg "WORTH_MOST" (.int 999999)) (D_is_word : IsDef P w K mg base true 2 "is_word" ["text"] sp_word) (D_is_between : IsDef P w K mg base true 1 "is_between" ["low", "number", "high"] sp_between) (e_BadNear : Er K mg "BadNear" C_BadNear) : FnOk P w K mg base (CXF P w) true 3 f fd ["x", "y", "price"] (sp_form C_BadNear) := by
  refine F.okX sc_check_near_form (fun vs H Q E h => ?_) (fun cdv A outer s H vs Q E hr h hX => ?_)
  · obtain ⟨x, y, p, rfl, _⟩ := h
    rfl
  · obtain ⟨x, y, p, rfl, hx, hy, q⟩ := h
    have bad : formOk x y p = false → ∀ H', Same H H' → E (.ref C_BadNear) none H' := fun e => by rw [e] at q; exact q
    have good : formOk x y p = true → ∀ H', Same H H' → Q .non H' := fun e => by rw [e] at q; exact q
    refine ⟨_, (@pss_cons _ _ _ _ _ (@ps_if _ _ _ _ _ _ _ _ (@PW.pt _ _ _ (@pw_or _ _ _ _ _ _ _ (@pt_not _ _ _ _ (@pt_val _ _ _ (@pe_def _ _ _ _ _ _ _ _ _ _ _ _ D_is_word (hr.mono (by decide)) passF (@pa_c _ _ _ _ _ (@pv _ 0 _ _ (by rfl) (by first | exact Or.inl rfl | exact Or.inr (Or.inl rfl) | exact Or.inr (Or.inr rfl)) (by decide) (by decide)) pa_nil (by rfl)) (by rfl) (by decide) (by rfl) (by rfl)) (by intro _; rfl))) (@pw_or1 _ _ _ _ (@pt_not _ _ _ _ (@pt_val _ _ _ (@pe_def _ _ _ _ _ _ _ _ _ _ _ _ D_is_word (hr.mono (by decide)) passF (@pa_c _ _ _ _ _ (@pv _ 1 _ _ (by rfl) (by first | exact Or.inl rfl | exact Or.inr (Or.inl rfl) | exact Or.inr (Or.inr rfl)) (by decide) (by decide)) pa_nil (by rfl)) (by rfl) (by decide) (by rfl) (by rfl)) (by intro _; rfl)))))) (@pss_one _ _ _ (@ps_raise _ _ _ _ _ _ _ _ _ _ hX (by exact rfl) (by exact rfl) e_BadNear.m e_BadNear.e (@pa_c _ _ _ _ _ pe_str pa_nil (by rfl)) (by decide) (by rfl) (by rfl))) pss_nil) (@pss_cons _ _ _ _ _ (@ps_if _ _ _ _ _ _ _ _ (@pt_cmpR _ _ _ _ _ _ _ _ op_eq (@pv _ 0 _ _ (by rfl) (by first | exact Or.inl rfl | exact Or.inr (Or.inl rfl) | exact Or.inr (Or.inr rfl)) (by decide) (by decide)) (@pv _ 1 _ _ (by rfl) (by first | exact Or.inl rfl | exact Or.inr (Or.inl rfl) | exact Or.inr (Or.inr rfl)) (by decide) (by decide)) (nomark _)) (@pss_one _ _ _ (@ps_raise _ _ _ _ _ _ _ _ _ _ hX (by exact rfl) (by exact rfl) e_BadNear.m e_BadNear.e (@pa_c _ _ _ _ _ pe_str pa_nil (by rfl)) (by decide) (by rfl) (by rfl))) pss_nil) (@pss_one _ _ _ (@ps_if _ _ _ _ _ _ _ _ (@pt_not _ _ _ _ (@pt_val _ _ _ (@pe_def _ _ _ _ _ _ _ _ _ _ _ _ D_is_between (hr.mono (by decide)) passF (@pa_c _ _ _ _ _ pe_int (@pa_c _ _ _ _ _ (@pv _ 2 _ _ (by rfl) (by first | exact Or.inl rfl | exact Or.inr (Or.inl rfl) | exact Or.inr (Or.inr rfl)) (by decide) (by decide)) (@pa_c _ _ _ _ _ (@pe_con' _ _ _ _ c_WORTH_MOST (by rfl) (by decide)) pa_nil (by rfl)) (by rfl)) (by rfl)) (by rfl) (by decide) (by rfl) (by rfl)) (by intro _; rfl))) (@pss_one _ _ _ (@ps_raise _ _ _ _ _ _ _ _ _ _ hX (by exact rfl) (by exact rfl) e_BadNear.m e_BadNear.e (@pa_c _ _ _ _ _ (@pe_joined _ _ _ _ _ _ (@pj_cons _ _ _ _ _ pe_str (@pj_cons _ _ _ _ _ (@pe_fmt _ _ _ _ (@pe_con' _ _ _ _ c_WORTH_MOST (by rfl) (by decide))) pj_nil))) pa_nil (by rfl)) (by decide) (by rfl) (by rfl))) pss_nil)))), ?_⟩
    refine ⟨_, rfl, x, rfl, hx, fun H1 s1 => ⟨_, rfl, ?_⟩⟩
    refine ite2 (fun h1 => ?_) (fun h1 => ?_)
    · have h1 : (!(isW x)) = true := h1
      exact ⟨one_line, bad (by simp [formOk, (Bool.not_eq_true' _).mp h1]) H1 s1⟩
    have h1 : ¬ (!(isW x)) = true := h1
    have h1 : isW x = true := by simpa using h1
    refine ⟨_, rfl, y, rfl, hy, fun H2 s2 => ⟨_, rfl, ?_⟩⟩
    have s2 := s1.trans s2
    refine ite2 (fun h2 => ?_) (fun h2 => ?_)
    · have h2 : (!(isW y)) = true := h2
      exact ⟨one_line, bad (by simp [formOk, (Bool.not_eq_true' _).mp h2]) H2 s2⟩
    have h2 : ¬ (!(isW y)) = true := h2
    have h2 : isW y = true := by simpa using h2
    refine ⟨_, rfl, _, rfl, rfl, _, rfl, ?_⟩
    refine ite2 (fun h3 => ?_) (fun h3 => ?_)
    · have h3 : x = y := by simpa using h3
      exact ⟨one_line, bad (by simp [formOk, h3]) H2 s2⟩
    have h3 : ¬ x = y := by simpa using h3
    refine ⟨_, rfl, 0, p, 999999, rfl, _, rfl, ?_⟩
    refine ite2 (fun h4 => ?_) (fun h4 => ?_)
    · have h4 : (!(inR 0 p 999999)) = true := h4
      have z1 := told_int (i := 999999) (by omega)
      have w1 : (Str.ofString "the price of a near form lies between 0 and ").length = 44 := by decide +kernel
      have w3 := len_empty
      refine ⟨_, rfl, le_line ?_, .inr ⟨999999, rfl, z1.1, _, rfl, le_line ?_, le_line ?_, one_line, ?_⟩⟩
      · rw [len_app]; omega
      · rw [len_app, len_app]; omega
      · rw [len_app, len_app]; omega
      · exact bad (by simp [formOk, (Bool.not_eq_true' _).mp h4]) H2 s2
    · have h4 : ¬ (!(inR 0 p 999999)) = true := h4
      have h4 : inR 0 p 999999 = true := by simpa using h4
      exact good (by simp [formOk, h1, h2, h3, h4]) H2 s2
theorem sc_near_prices : FnScope ["near", "prices", "x", "y", "price"] ["near"] (defScope s_near_prices) := ⟨rfl, rfl, rfl, by decide +kernel, rfl, by decide +kernel, by decide +kernel⟩
theorem ok_near_prices {f : Addr} {fd : FuncData} (F : Fun K "near_prices" "near_prices" s_near_prices f fd) (T : TB mg) (c_NEAR_MOST : Con mg "NEAR_MOST" (.int 60)) (D_check_near_form : IsDef P w K mg base true 3 "check_near_form" ["x", "y", "price"] (sp_form C_BadNear)) (e_BadNear : Er K mg "BadNear" C_BadNear) : FnOk P w K mg base (CXF P w) true 4 f fd ["near"] (sp_prices C_BadNear) := by
  refine F.okX sc_near_prices (fun vs H Q E h => ?_) (fun cdv A outer s H vs Q E hr h hX => ?_)
  · obtain ⟨a, xs, fs, rfl, _⟩ := h
    rfl
  · obtain ⟨a, xs, fs, rfl, ha, ht, hsh, q⟩ := h
    have bad : goodNear fs = false → ∀ H', Same H H' → E (.ref C_BadNear) none H' := fun e => by rw [e] at q; exact q
    have good : goodNear fs = true → ∀ H' d, Same H H' → H d = none → H' d = some (.dT (fs.map kvOf)) → Q (.ref d) H' := fun e => by rw [e] at q; exact q
    have hu := hr.units
    have hu : (A.deeper (PyProof.Rows.envOfC "near_prices" (defScope s_near_prices) s.heap.objs.size f cdv)).units + 1 < cLine := by omega
    refine ⟨_, (@pss_cons _ _ _ _ _ (@ps_if _ _ _ _ _ _ _ _ (@pt_cmpR _ _ _ _ _ _ _ _ op_gt (@pe_callB _ _ _ _ _ _ _ _ _ (call_len_seqK K) (by exact rfl) T.n_len PyProof.Rows.Boot.«len» (@pa_c _ _ _ _ _ (@pv _ 0 _ _ (by rfl) (by first | exact Or.inl rfl | exact Or.inr (Or.inl rfl) | exact Or.inr (Or.inr rfl)) (by decide) (by decide)) pa_nil (by rfl)) (by decide) (by decide) (by rfl) (by rfl)) (@pe_con' _ _ _ _ c_NEAR_MOST (by rfl) (by decide)) (nomark _)) (@pss_one _ _ _ (@ps_raise _ _ _ _ _ _ _ _ _ _ hX (by exact rfl) (by exact rfl) e_BadNear.m e_BadNear.e (@pa_c _ _ _ _ _ (@pe_joined _ _ _ _ _ _ (@pj_cons _ _ _ _ _ pe_str (@pj_cons _ _ _ _ _ (@pe_fmt _ _ _ _ (@pe_con' _ _ _ _ c_NEAR_MOST (by rfl) (by decide))) (@pj_cons _ _ _ _ _ pe_str pj_nil)))) pa_nil (by rfl)) (by decide) (by rfl) (by rfl))) pss_nil) (@pss_cons _ _ _ _ _ (@ps_set _ _ (1) _ _ _ _ sc_near_prices.nd (by exact rfl) (Or.inl rfl) pe_dnewT (by rfl) (by first | exact .inl rfl | exact .inr rfl | assumption)) (@pss_cons _ _ _ _ _ (@ps_for _ _ _ _ _ _ _ _ hX.own (by exact rfl) (@pi_listK _ K _ _ _ (@pv _ 0 _ _ (by rfl) (by first | exact Or.inl rfl | exact Or.inr (Or.inl rfl) | exact Or.inr (Or.inr rfl)) (by decide) (by decide)) (by rfl)) (@pg_tupK _ K _ _ _ (3) _ (by exact rfl) (@pgs_cons _ _ _ _ _ (@pg_name _ _ (2) _ sc_near_prices.nd (by exact rfl) (Or.inl rfl) (by first | exact .inl rfl | exact .inr rfl | assumption)) (@pgs_cons _ _ _ _ _ (@pg_name _ _ (3) _ sc_near_prices.nd (by exact rfl) (Or.inl rfl) (by first | exact .inl rfl | exact .inr rfl | assumption)) (@pgs_cons _ _ _ _ _ (@pg_name _ _ (4) _ sc_near_prices.nd (by exact rfl) (Or.inl rfl) (by first | exact .inl rfl | exact .inr rfl | assumption)) pgs_nil (by rfl)) (by rfl)) (by rfl)) (by rfl) (by rfl) (by rfl)) (@pss_cons _ _ _ _ _ (@ps_expr _ _ _ _ (@pe_def _ _ _ _ _ _ _ _ _ _ _ _ D_check_near_form (hr.mono (by decide)) hX.pass (@pa_c _ _ _ _ _ (@pv _ 2 _ _ (by rfl) (by first | exact Or.inl rfl | exact Or.inr (Or.inl rfl) | exact Or.inr (Or.inr rfl)) (by decide) (by decide)) (@pa_c _ _ _ _ _ (@pv _ 3 _ _ (by rfl) (by first | exact Or.inl rfl | exact Or.inr (Or.inl rfl) | exact Or.inr (Or.inr rfl)) (by decide) (by decide)) (@pa_c _ _ _ _ _ (@pv _ 4 _ _ (by rfl) (by first | exact Or.inl rfl | exact Or.inr (Or.inl rfl) | exact Or.inr (Or.inr rfl)) (by decide) (by decide)) pa_nil (by rfl)) (by rfl)) (by rfl)) (by rfl) (by decide) (by rfl) (by rfl)) (by rfl)) (@pss_cons _ _ _ _ _ (@ps_if _ _ _ _ _ _ _ _ (@pt_cmp _ _ _ _ _ _ (@pc_din _ _ _ _ _ hu (@pe_tup _ _ _ _ _ (@pa_c _ _ _ _ _ (@pv _ 2 _ _ (by rfl) (by first | exact Or.inl rfl | exact Or.inr (Or.inl rfl) | exact Or.inr (Or.inr rfl)) (by decide) (by decide)) (@pa_c _ _ _ _ _ (@pv _ 3 _ _ (by rfl) (by first | exact Or.inl rfl | exact Or.inr (Or.inl rfl) | exact Or.inr (Or.inr rfl)) (by decide) (by decide)) pa_nil (by rfl)) (by rfl))) (@pv _ 1 _ _ (by rfl) (by first | exact Or.inl rfl | exact Or.inr (Or.inl rfl) | exact Or.inr (Or.inr rfl)) (by decide) (by decide))) (by first | exact nobehind _ (by decide) (by decide) | rfl)) (@pss_one _ _ _ (@ps_raise _ _ _ _ _ _ _ _ _ _ hX (by exact rfl) (by exact rfl) e_BadNear.m e_BadNear.e (@pa_c _ _ _ _ _ pe_str pa_nil (by rfl)) (by decide) (by rfl) (by rfl))) pss_nil) (@pss_one _ _ _ (@ps_dput _ _ _ _ _ _ _ _ _ hu (@pv _ 1 _ _ (by rfl) (by first | exact Or.inl rfl | exact Or.inr (Or.inl rfl) | exact Or.inr (Or.inr rfl)) (by decide) (by decide)) (@pe_tup _ _ _ _ _ (@pa_c _ _ _ _ _ (@pv _ 2 _ _ (by rfl) (by first | exact Or.inl rfl | exact Or.inr (Or.inl rfl) | exact Or.inr (Or.inr rfl)) (by decide) (by decide)) (@pa_c _ _ _ _ _ (@pv _ 3 _ _ (by rfl) (by first | exact Or.inl rfl | exact Or.inr (Or.inl rfl) | exact Or.inr (Or.inr rfl)) (by decide) (by decide)) pa_nil (by rfl)) (by rfl))) (@pv _ 4 _ _ (by rfl) (by first | exact Or.inl rfl | exact Or.inr (Or.inl rfl) | exact Or.inr (Or.inr rfl)) (by decide) (by decide)) (by exact rfl))))) (by intro _; rfl)) (@pss_one _ _ _ (@ps_ret _ _ _ _ (@pv _ 1 _ _ (by rfl) (by first | exact Or.inl rfl | exact Or.inr (Or.inl rfl) | exact Or.inr (Or.inr rfl)) (by decide) (by decide))))))), ?_⟩
    refine ⟨_, rfl, a, _, rfl, .inl (.of ha), _, _, rfl, rfl, _, rfl, ?_⟩
    refine ite2 (fun h1 => ?_) (fun h1 => ?_)
    · have h1 : (60 : Int) < (xs.length : Int) := by simpa using h1
      rw [ht.1] at h1
      have z1 := told_int (i := 60) (by omega)
      have w1 : (Str.ofString "there are at most ").length = 18 := by decide +kernel
      have w2 : (Str.ofString " near forms").length = 11 := by decide +kernel
      have w3 := len_empty
      refine ⟨_, rfl, le_line ?_, .inr ⟨60, rfl, z1.1, _, rfl, le_line ?_, _, rfl, le_line ?_, le_line ?_, one_line, ?_⟩⟩
      · rw [len_app]; omega
      · rw [len_app, len_app]; omega
      · rw [len_app, len_app, len_app]; omega
      · rw [len_app, len_app, len_app]; omega
      · exact bad (by have : ¬ fs.length ≤ 60 := by omega
                      simp [goodNear, this]) H (.refl H)
    have h1 : ¬ (60 : Int) < (xs.length : Int) := by simpa using h1
    rw [ht.1] at h1
    refine fun d hd => ?_
    have had : H a ≠ none := by rw [ha]; intro z; cases z
    have hne : a ≠ d := ne_of_none ha hd
    refine ⟨_, rfl, a, rfl, ⟨xs, .of (by rw [upd_ne hne]; exact ha)⟩, ?_⟩
    refine for_list (xs := xs) (fun i σ H' => (∃ u v w, σ = [some (.ref a), some (.ref d), u, v, w]) ∧ H' d = some (.dT ((fs.take i).map kvOf)) ∧ Same H H' ∧ ((fs.take i).all fOk = true) ∧ ((fs.take i).map key2).Nodup) ?_ ?_ ?_ ?_
    · exact ⟨⟨_, _, _, rfl⟩, upd_same, Same.upd hd, rfl, .nil⟩
    · rintro i σ H' hi ⟨_, _, s1, _⟩
      exact .of (s1 _ _ ha)
    · rintro i x σ H' hx ⟨⟨u, v, w, rfl⟩, hD, s1, hok, hnd⟩
      have hi : i < fs.length := by rw [← ht.1]; exact (List.getElem?_eq_some_iff.mp hx).1
      have hf : fs[i]? = some fs[i] := by simp [hi]
      generalize fs[i] = f0 at hf
      obtain ⟨t, ht1, ht2⟩ := ht.2 i f0 hf
      rw [hx] at ht1
      cases ht1
      obtain ⟨x, y, p⟩ := f0
      have hm : (x, y, p) ∈ fs := List.mem_of_getElem? hf
      obtain ⟨hx1, hy1⟩ := hsh.2 _ hm
      refine ⟨t, _, rfl, .of (s1 _ _ ht2), rfl, _, _, rfl, _, _, rfl, _, _, rfl, rfl, ?_⟩
      refine ⟨_, rfl, _, rfl, _, rfl, x, y, p, rfl, hx1, hy1, ?_⟩
      refine ite2 (fun h2 => ?_) (fun h2 => ?_)
      rotate_left
      · have h2 : fOk (x, y, p) = false := by simpa [fOk] using h2
        exact fun H2 s2 => bad (bad_form hf h2) H2 (s1.trans s2)
      have h2 : fOk (x, y, p) = true := h2
      intro H2 s2
      have s2' := s1.trans s2
      have hD2 := s2 _ _ hD
      refine ⟨_, rfl, _, rfl, le_line (by simp), fun p1 hp1 => ?_⟩
      have n1 : d ≠ p1 := ne_of_none hD2 hp1
      refine ⟨_, rfl, d, _, rfl, .t (k := key2 (x, y, p)) (by rw [upd_ne n1]; exact hD2) upd_same, _, rfl, ?_⟩
      refine ite2 (fun h3 => ?_) (fun h3 => ?_)
      · obtain ⟨v3, h3⟩ := Option.isSome_iff_exists.mp h3
        exact ⟨one_line, bad (bad_twice hf (kv_yes h3)) _ (s2'.upd2 (s2'.free hp1))⟩
      have h3 : valV ((fs.take i).map kvOf) (key2 (x, y, p)) = none := by simpa using h3
      have s3 : Same H (upd H2 p1 (.tup [.str x, .str y])) := s2'.upd2 (s2'.free hp1)
      refine ⟨_, rfl, _, rfl, _, rfl, _, rfl, le_line (by simp), fun p2 hp2 => ?_⟩
      have hD3 : upd H2 p1 (.tup [.str x, .str y]) d = some (.dT ((fs.take i).map kvOf)) := by rw [upd_ne n1]; exact hD2
      have n2 : d ≠ p2 := ne_of_none hD3 hp2
      have hlen : ((fs.take i).map kvOf).length < sizeLine := lt_line (by rw [List.length_map, List.length_take]; omega)
      refine ⟨d, _, rfl, .t (k := key2 (x, y, p)) (by rw [upd_ne n2]; exact hD3) upd_same hlen, ?_⟩
      refine ⟨⟨_, _, _, rfl⟩, ?_, ?_, ?_, ?_⟩
      · rw [upd_same, putK_new _ h3, good_step hf]; rfl
      · exact (s3.upd2 (s3.free hp2)).upd2 hd
      · rw [List.take_succ, hf, List.all_append, hok]
        simp [h2]
      · rw [List.take_succ, hf, List.map_append]
        have := kv_no h3
        refine List.nodup_append.mpr ⟨hnd, by simp, ?_⟩
        intro a1 ha1 b1 hb1 e
        have hb1 : b1 = key2 (x, y, p) := by simpa using hb1
        rw [e, hb1] at ha1
        exact this ha1
    · rintro σ H' ⟨⟨u, v, w, rfl⟩, hD, s1, hok, hnd⟩
      rw [ht.1, List.take_length] at hD hok hnd
      refine ⟨_, rfl, good ?_ H' d s1 hd hD⟩
      have : fs.length ≤ 60 := by omega
      simp [goodNear, this, hok, hnd]
theorem sc_Terms___init__ : FnScope ["self", "same", "out", "into", "least", "part", "near"] ["self", "same", "out", "into", "least", "part", "near"] (defScope s_Terms___init__) := ⟨rfl, rfl, rfl, by decide +kernel, rfl, by decide +kernel, by decide +kernel⟩
theorem ok_Terms___init__ {f : Addr} {fd : FuncData} (F : FunD K "__init__" "Terms.__init__" s_Terms___init__ f fd) (T : TB mg) (c_WORTH_MOST : Con mg "WORTH_MOST" (.int 999999)) (c_PART_MOST : Con mg "PART_MOST" (.int 100)) (D_check_number : IsDef P w K mg base true 2 "check_number" ["name", "number", "low", "high"] (sp_number C_BadTerms)) (D_near_prices : IsDef P w K mg base true 4 "near_prices" ["near"] (sp_prices C_BadNear)) (Tc : TermsC K C_Terms) : FnOk P w K mg base (CXF P w) true 5 f fd ["self", "same", "out", "into", "least", "part", "near"] (sp_init C_Terms C_BadTerms C_BadNear) := by
  refine F.okX sc_Terms___init__ (fun vs H Q E h => ?_) (fun cdv A outer s H vs Q E hr h hX => ?_)
  · obtain ⟨x, dx, n, nv, xs, fs, rfl, _⟩ := h
    rfl
  · obtain ⟨x, dx, n, nv, xs, fs, rfl, hx, hdx, hnv, hsh, q⟩ := h
    have bad : okNums n = false → E (.ref C_BadTerms) none H := fun e => by rw [e] at q; exact q H .refl
    refine ⟨_, (@pss_cons _ _ _ _ _ (@ps_expr _ _ _ _ (@pe_def _ _ _ _ _ _ _ _ _ _ _ _ D_check_number (hr.mono (by decide)) hX.pass (@pa_c _ _ _ _ _ pe_str (@pa_c _ _ _ _ _ (@pv _ 1 _ _ (by rfl) (by first | exact Or.inl rfl | exact Or.inr (Or.inl rfl) | exact Or.inr (Or.inr rfl)) (by decide) (by decide)) (@pa_c _ _ _ _ _ pe_int (@pa_c _ _ _ _ _ (@pe_con' _ _ _ _ c_WORTH_MOST (by rfl) (by decide)) pa_nil (by rfl)) (by rfl)) (by rfl)) (by rfl)) (by rfl) (by decide) (by rfl) (by rfl)) (by rfl)) (@pss_cons _ _ _ _ _ (@ps_expr _ _ _ _ (@pe_def _ _ _ _ _ _ _ _ _ _ _ _ D_check_number (hr.mono (by decide)) hX.pass (@pa_c _ _ _ _ _ pe_str (@pa_c _ _ _ _ _ (@pv _ 2 _ _ (by rfl) (by first | exact Or.inl rfl | exact Or.inr (Or.inl rfl) | exact Or.inr (Or.inr rfl)) (by decide) (by decide)) (@pa_c _ _ _ _ _ pe_int (@pa_c _ _ _ _ _ (@pe_con' _ _ _ _ c_WORTH_MOST (by rfl) (by decide)) pa_nil (by rfl)) (by rfl)) (by rfl)) (by rfl)) (by rfl) (by decide) (by rfl) (by rfl)) (by rfl)) (@pss_cons _ _ _ _ _ (@ps_expr _ _ _ _ (@pe_def _ _ _ _ _ _ _ _ _ _ _ _ D_check_number (hr.mono (by decide)) hX.pass (@pa_c _ _ _ _ _ pe_str (@pa_c _ _ _ _ _ (@pv _ 3 _ _ (by rfl) (by first | exact Or.inl rfl | exact Or.inr (Or.inl rfl) | exact Or.inr (Or.inr rfl)) (by decide) (by decide)) (@pa_c _ _ _ _ _ pe_int (@pa_c _ _ _ _ _ (@pe_con' _ _ _ _ c_WORTH_MOST (by rfl) (by decide)) pa_nil (by rfl)) (by rfl)) (by rfl)) (by rfl)) (by rfl) (by decide) (by rfl) (by rfl)) (by rfl)) (@pss_cons _ _ _ _ _ (@ps_expr _ _ _ _ (@pe_def _ _ _ _ _ _ _ _ _ _ _ _ D_check_number (hr.mono (by decide)) hX.pass (@pa_c _ _ _ _ _ pe_str (@pa_c _ _ _ _ _ (@pv _ 4 _ _ (by rfl) (by first | exact Or.inl rfl | exact Or.inr (Or.inl rfl) | exact Or.inr (Or.inr rfl)) (by decide) (by decide)) (@pa_c _ _ _ _ _ pe_int (@pa_c _ _ _ _ _ (@pe_con' _ _ _ _ c_WORTH_MOST (by rfl) (by decide)) pa_nil (by rfl)) (by rfl)) (by rfl)) (by rfl)) (by rfl) (by decide) (by rfl) (by rfl)) (by rfl)) (@pss_cons _ _ _ _ _ (@ps_expr _ _ _ _ (@pe_def _ _ _ _ _ _ _ _ _ _ _ _ D_check_number (hr.mono (by decide)) hX.pass (@pa_c _ _ _ _ _ pe_str (@pa_c _ _ _ _ _ (@pv _ 5 _ _ (by rfl) (by first | exact Or.inl rfl | exact Or.inr (Or.inl rfl) | exact Or.inr (Or.inr rfl)) (by decide) (by decide)) (@pa_c _ _ _ _ _ pe_int (@pa_c _ _ _ _ _ (@pe_con' _ _ _ _ c_PART_MOST (by rfl) (by decide)) pa_nil (by rfl)) (by rfl)) (by rfl)) (by rfl)) (by rfl) (by decide) (by rfl) (by rfl)) (by rfl)) (@pss_cons _ _ _ _ _ (@ps_fldK _ K _ _ _ _ _ _ _ (@pv _ 0 _ _ (by rfl) (by first | exact Or.inl rfl | exact Or.inr (Or.inl rfl) | exact Or.inr (Or.inr rfl)) (by decide) (by decide)) (@pv _ 1 _ _ (by rfl) (by first | exact Or.inl rfl | exact Or.inr (Or.inl rfl) | exact Or.inr (Or.inr rfl)) (by decide) (by decide)) (by rfl) (by rfl)) (@pss_cons _ _ _ _ _ (@ps_fldK _ K _ _ _ _ _ _ _ (@pv _ 0 _ _ (by rfl) (by first | exact Or.inl rfl | exact Or.inr (Or.inl rfl) | exact Or.inr (Or.inr rfl)) (by decide) (by decide)) (@pv _ 2 _ _ (by rfl) (by first | exact Or.inl rfl | exact Or.inr (Or.inl rfl) | exact Or.inr (Or.inr rfl)) (by decide) (by decide)) (by rfl) (by rfl)) (@pss_cons _ _ _ _ _ (@ps_fldK _ K _ _ _ _ _ _ _ (@pv _ 0 _ _ (by rfl) (by first | exact Or.inl rfl | exact Or.inr (Or.inl rfl) | exact Or.inr (Or.inr rfl)) (by decide) (by decide)) (@pv _ 3 _ _ (by rfl) (by first | exact Or.inl rfl | exact Or.inr (Or.inl rfl) | exact Or.inr (Or.inr rfl)) (by decide) (by decide)) (by rfl) (by rfl)) (@pss_cons _ _ _ _ _ (@ps_fldK _ K _ _ _ _ _ _ _ (@pv _ 0 _ _ (by rfl) (by first | exact Or.inl rfl | exact Or.inr (Or.inl rfl) | exact Or.inr (Or.inr rfl)) (by decide) (by decide)) (@pv _ 4 _ _ (by rfl) (by first | exact Or.inl rfl | exact Or.inr (Or.inl rfl) | exact Or.inr (Or.inr rfl)) (by decide) (by decide)) (by rfl) (by rfl)) (@pss_cons _ _ _ _ _ (@ps_fldK _ K _ _ _ _ _ _ _ (@pv _ 0 _ _ (by rfl) (by first | exact Or.inl rfl | exact Or.inr (Or.inl rfl) | exact Or.inr (Or.inr rfl)) (by decide) (by decide)) (@pv _ 5 _ _ (by rfl) (by first | exact Or.inl rfl | exact Or.inr (Or.inl rfl) | exact Or.inr (Or.inr rfl)) (by decide) (by decide)) (by rfl) (by rfl)) (@pss_cut _ _ _ _ _ (@ps_fldK _ K _ _ _ _ _ _ _ (@pv _ 0 _ _ (by rfl) (by first | exact Or.inl rfl | exact Or.inr (Or.inl rfl) | exact Or.inr (Or.inr rfl)) (by decide) (by decide)) (@pe_ifExp _ _ _ _ _ _ _ _ (@pt_cmp _ _ _ _ _ _ (@pc_isN _ _ _ _ _ (@pv _ 6 _ _ (by rfl) (by first | exact Or.inl rfl | exact Or.inr (Or.inl rfl) | exact Or.inr (Or.inr rfl)) (by decide) (by decide))) (by first | exact nobehind _ (by decide) (by decide) | rfl)) (@pe_lst _ _ _ _ pa_nil) (@pe_callTy _ _ _ _ _ _ _ _ _ (call_list_ofK K) (by exact rfl) T.n_list PyProof.Rows.Boot.«list» (@pa_c _ _ _ _ _ (@pv _ 6 _ _ (by rfl) (by first | exact Or.inl rfl | exact Or.inr (Or.inl rfl) | exact Or.inr (Or.inr rfl)) (by decide) (by decide)) pa_nil (by rfl)) (by decide) (by decide) (by rfl) (by rfl))) (by rfl) (by rfl)) (@pss_one _ _ _ (@ps_fldK _ K _ _ _ _ _ _ _ (@pv _ 0 _ _ (by rfl) (by first | exact Or.inl rfl | exact Or.inr (Or.inl rfl) | exact Or.inr (Or.inr rfl)) (by decide) (by decide)) (@pe_def _ _ _ _ _ _ _ _ _ _ _ _ D_near_prices (hr.mono (by decide)) hX.pass (@pa_c _ _ _ _ _ (@pe_fldK _ K _ _ _ _ (@pv _ 0 _ _ (by rfl) (by first | exact Or.inl rfl | exact Or.inr (Or.inl rfl) | exact Or.inr (Or.inr rfl)) (by decide) (by decide)) (by rfl) (by rfl)) pa_nil (by rfl)) (by rfl) (by decide) (by rfl) (by rfl)) (by rfl) (by rfl)))))))))))))), ?_⟩
    refine ⟨_, rfl, "same", n.same, 1, 999999, rfl, by decide +kernel, by omega, by omega, ?_⟩
    refine ite2 (fun h1 => ?_) (fun h1 => bad (by simp [okNums, h1]))
    refine ⟨_, rfl, "out", n.out, 0, 999999, rfl, by decide +kernel, by omega, by omega, ?_⟩
    refine ite2 (fun h2 => ?_) (fun h2 => bad (by simp [okNums, h2]))
    refine ⟨_, rfl, "into", n.into, 0, 999999, rfl, by decide +kernel, by omega, by omega, ?_⟩
    refine ite2 (fun h3 => ?_) (fun h3 => bad (by simp [okNums, h3]))
    refine ⟨_, rfl, "least", n.least, 1, 999999, rfl, by decide +kernel, by omega, by omega, ?_⟩
    refine ite2 (fun h4 => ?_) (fun h4 => bad (by simp [okNums, h4]))
    refine ⟨_, rfl, "part", n.part, 1, 100, rfl, by decide +kernel, by omega, by omega, ?_⟩
    refine ite2 (fun h5 => ?_) (fun h5 => bad (by simp [okNums, h5]))
    have hok : okNums n = true := by simp [okNums, h1, h2, h3, h4, h5]
    rw [hok] at q
    have hl : ∀ k : Nat, k < 10 → k < 1000 := fun k h => by omega
    refine ⟨_, rfl, _, rfl, x, C_Terms, dx, _, rfl, hx, Tc.cl, Tc.same, by decide, ?_⟩
    refine ⟨_, rfl, _, rfl, x, C_Terms, dx, _, rfl, upd_same, Tc.cl, Tc.out, ?_, ?_⟩
    · exact hl _ (by have := length_putF "same" (.int n.same) []; simp at this; omega)
    refine ⟨_, rfl, _, rfl, x, C_Terms, dx, _, rfl, upd_same, Tc.cl, Tc.into, ?_, ?_⟩
    · exact hl _ (Nat.lt_of_le_of_lt (length_putF _ _ _) (by have := length_putF "same" (.int n.same) []; simp at this; omega))
    refine ⟨_, rfl, _, rfl, x, C_Terms, dx, _, rfl, upd_same, Tc.cl, Tc.least, ?_, ?_⟩
    · show ([("same", .int n.same), ("out", .int n.out), ("into", .int n.into)] : List (Str × V)).length < 1000
      simp
    refine ⟨_, rfl, _, rfl, x, C_Terms, dx, _, rfl, upd_same, Tc.cl, Tc.part, ?_, ?_⟩
    · show ([("same", .int n.same), ("out", .int n.out), ("into", .int n.into), ("least", .int n.least)] : List (Str × V)).length < 1000
      simp
    rw [upd_upd, upd_upd, upd_upd, upd_upd, put5]
    have b5 : SameBut x H (upd H x (.ins C_Terms dx (flds5 n))) := SameBut.refl.upd
    refine ⟨fun σ H' => σ = [some (.ref x), some (.int n.same), some (.int n.out), some (.int n.into), some (.int n.least), some (.int n.part), some nv] ∧ ∃ l, H' x = some (.ins C_Terms dx (putF "near" (.ref l) (flds5 n))) ∧ SameBut x H H' ∧ H' l = some (.lst xs) ∧ Trips H' xs fs ∧ H l = none, ?_, ?_⟩
    · refine ⟨_, rfl, _, rfl, ?_⟩
      rcases hnv with ⟨rfl, rfl, rfl⟩ | ⟨a, rfl, ha, htr⟩
      · refine iteT ?_
        refine ⟨le_line (by simp), fun l hl1 => ?_⟩
        have n1 : x ≠ l := ne_of_none upd_same hl1
        refine ⟨_, rfl, x, C_Terms, dx, _, rfl, by rw [upd_ne n1, upd_same], Tc.cl, Tc.near, by simp [flds5], rfl, l, upd_same, ?_, ?_, .nil, ?_⟩
        · exact (b5.laid (b5.free upd_same hl1)).upd
        · rw [upd_ne (Ne.symm n1), upd_same]
        · exact b5.free upd_same hl1
      · refine ite2 (fun hh => absurd hh (by simp)) (fun _ => ?_)
        have n0 : a ≠ x := ne_of ha hx (by intro z; cases z)
        refine ⟨_, rfl, a, xs, rfl, .inl (.of (by rw [upd_ne n0]; exact ha)), fun l hl1 => ?_⟩
        have n1 : x ≠ l := ne_of_none upd_same hl1
        have b6 : SameBut x H (upd (upd H x (.ins C_Terms dx (flds5 n))) l (.lst xs)) := b5.laid (b5.free upd_same hl1)
        refine ⟨_, rfl, x, C_Terms, dx, _, rfl, by rw [upd_ne n1, upd_same], Tc.cl, Tc.near, by simp [flds5], rfl, l, upd_same, b6.upd, ?_, ?_, ?_⟩
        · rw [upd_ne (Ne.symm n1), upd_same]
        · exact htr.but b6.upd hx
        · exact b5.free upd_same hl1
    · rintro σ H' ⟨rfl, l, hx', sb, hl', htr, hln⟩
      refine ⟨_, rfl, x, C_Terms, dx, _, _, rfl, hx', Tc.cl, Tc.near, near5 n l, l, xs, fs, rfl, hl', htr, hsh, ?_⟩
      refine ite2 (fun h6 => ?_) (fun h6 => ?_)
      · rw [if_pos rfl, if_pos h6] at q
        intro H2 d s2 hd hD
        have b2 := sb.same s2
        have hdn := sb.free hx' hd
        refine ⟨_, rfl, x, C_Terms, dx, _, rfl, s2 _ _ hx', Tc.cl, Tc.prices, ?_, ?_⟩
        · have := length_putF "near" (.ref l) (flds5 n)
          have e5 : (flds5 n).length = 5 := rfl
          exact hl _ (by omega)
        · have nl : l ≠ x := ne_of hl' hx' (by intro z; cases z)
          have nd : d ≠ x := ne_of hD (s2 _ _ hx') (by intro z; cases z)
          have ndx : dx ≠ x := ne_of hdx hx (by intro z; cases z)
          refine q _ l d b2.upd ⟨?_, ?_, ?_, ?_, ?_⟩ hln hdn
          · rw [upd_same, put7]
          · rw [upd_ne ndx]; exact b2 _ _ ndx hdx
          · rw [upd_ne nl]; exact s2 _ _ hl'
          · exact htr.but (SameBut.upd (fun b u n e => s2 b u e)) hx'
          · rw [upd_ne nd]; exact hD
      · rw [if_pos rfl, if_neg h6] at q
        exact fun H2 s2 => q H2 (sb.same s2)
theorem sc_Terms_pair_worth : FnScope ["self", "x", "y", "price"] ["self", "x", "y"] (defScope s_Terms_pair_worth) := ⟨rfl, rfl, rfl, by decide +kernel, rfl, by decide +kernel, by decide +kernel⟩
theorem ok_Terms_pair_worth {f : Addr} {fd : FuncData} (F : FunD K "pair_worth" "Terms.pair_worth" s_Terms_pair_worth f fd) (T : TB mg) (Tc : TermsC K C_Terms) : FnOk P w K mg base (CXF P w) true 1 f fd ["self", "x", "y"] (sp_pair C_Terms) := by
  refine F.okX sc_Terms_pair_worth (fun vs H Q E h => ?_) (fun cdv A outer s H vs Q E hr h hX => ?_)
  · obtain ⟨t, x, y, n, fs, dx, l, d, xs, rfl, _⟩ := h
    rfl
  · obtain ⟨t, x, y, n, fs, dx, l, d, xs, rfl, T1, q⟩ := h
    have hu := hr.units
    have hu : (A.deeper (PyProof.Rows.envOfC "Terms.pair_worth" (defScope s_Terms_pair_worth) s.heap.objs.size f cdv)).units + 1 < cLine := by omega
    refine ⟨_, (@pss_cons _ _ _ _ _ (@ps_if _ _ _ _ _ _ _ _ (@pt_cmpR _ _ _ _ _ _ _ _ op_eq (@pv _ 1 _ _ (by rfl) (by first | exact Or.inl rfl | exact Or.inr (Or.inl rfl) | exact Or.inr (Or.inr rfl)) (by decide) (by decide)) (@pv _ 2 _ _ (by rfl) (by first | exact Or.inl rfl | exact Or.inr (Or.inl rfl) | exact Or.inr (Or.inr rfl)) (by decide) (by decide)) (nomark _)) (@pss_one _ _ _ (@ps_ret _ _ _ _ (@pe_fldK _ K _ _ _ _ (@pv _ 0 _ _ (by rfl) (by first | exact Or.inl rfl | exact Or.inr (Or.inl rfl) | exact Or.inr (Or.inr rfl)) (by decide) (by decide)) (by rfl) (by rfl)))) pss_nil) (@pss_cons _ _ _ _ _ (@ps_set _ _ (3) _ _ _ _ sc_Terms_pair_worth.nd (by exact rfl) (Or.inl rfl) (@pe_dget1 _ _ _ _ _ _ _ hu (@pe_fldK _ K _ _ _ _ (@pv _ 0 _ _ (by rfl) (by first | exact Or.inl rfl | exact Or.inr (Or.inl rfl) | exact Or.inr (Or.inr rfl)) (by decide) (by decide)) (by rfl) (by rfl)) (@pe_tup _ _ _ _ _ (@pa_c _ _ _ _ _ (@pv _ 1 _ _ (by rfl) (by first | exact Or.inl rfl | exact Or.inr (Or.inl rfl) | exact Or.inr (Or.inr rfl)) (by decide) (by decide)) (@pa_c _ _ _ _ _ (@pv _ 2 _ _ (by rfl) (by first | exact Or.inl rfl | exact Or.inr (Or.inl rfl) | exact Or.inr (Or.inr rfl)) (by decide) (by decide)) pa_nil (by rfl)) (by rfl))) ⟨rfl, rfl, rfl, rfl⟩) (by rfl) (by first | exact .inl rfl | exact .inr rfl | assumption)) (@pss_cons _ _ _ _ _ (@ps_if _ _ _ _ _ _ _ _ (@pt_cmp _ _ _ _ _ _ (@pc_isN _ _ _ _ _ (@pv _ 3 _ _ (by rfl) (by first | exact Or.inl rfl | exact Or.inr (Or.inl rfl) | exact Or.inr (Or.inr rfl)) (by decide) (by decide))) (by first | exact nobehind _ (by decide) (by decide) | rfl)) (@pss_one _ _ _ (@ps_ret _ _ _ _ pe_non)) pss_nil) (@pss_one _ _ _ (@ps_ret _ _ _ _ (@pe_op _ _ _ _ _ _ _ _ op_sub (@pe_fldK _ K _ _ _ _ (@pv _ 0 _ _ (by rfl) (by first | exact Or.inl rfl | exact Or.inr (Or.inl rfl) | exact Or.inr (Or.inr rfl)) (by decide) (by decide)) (by rfl) (by rfl)) (@pv _ 3 _ _ (by rfl) (by first | exact Or.inl rfl | exact Or.inr (Or.inl rfl) | exact Or.inr (Or.inr rfl)) (by decide) (by decide)))))))), ?_⟩
    refine ⟨_, rfl, _, rfl, rfl, _, rfl, ?_⟩
    refine ite2 (fun h => ?_) (fun h => ?_)
    · have h : x = y := by simpa using h
      have q := q H (.refl H)
      rw [show pairW n.same fs x y = some n.same by simp [pairW, h]] at q
      exact ⟨_, rfl, t, C_Terms, dx, _, _, rfl, T1.ob, Tc.cl, Tc.same, l_same n l d, q⟩
    have h : ¬ x = y := by simpa using h
    refine ⟨_, rfl, t, C_Terms, dx, _, _, rfl, T1.ob, Tc.cl, Tc.prices, l_prices n l d, d, rfl, .inr ⟨_, .inl T1.di⟩, _, rfl, _, rfl, le_line (by simp), fun p hp => ?_⟩
    have nd : d ≠ p := ne_of_none T1.di hp
    have q := q _ (Same.upd (o := .tup [.str x, .str y]) hp)
    refine ⟨_, .t (k := [.inr x, .inr y]) (by rw [upd_ne nd]; exact T1.di) upd_same, ?_⟩
    rw [val_price]
    have T2 : TermsAt (upd H p (.tup [.str x, .str y])) C_Terms t n fs dx l d xs := ⟨Same.upd hp _ _ T1.ob, Same.upd hp _ _ T1.own, Same.upd hp _ _ T1.li, T1.tr.same (Same.upd hp), Same.upd hp _ _ T1.di⟩
    cases e : priceOf fs x y with
    | none =>
      rw [show pairW n.same fs x y = none by simp [pairW, h, e]] at q
      refine ⟨_, rfl, _, rfl, ?_⟩
      exact iteT q
    | some v =>
      rw [show pairW n.same fs x y = some (n.same - v) by simp [pairW, h, e]] at q
      refine ⟨_, rfl, _, rfl, ?_⟩
      refine ite2 (fun hh => absurd hh (by simp)) (fun _ => ?_)
      exact ⟨_, rfl, t, C_Terms, dx, _, _, rfl, T2.ob, Tc.cl, Tc.same, l_same n l d, _, rfl, _, _, rfl, rfl, q⟩
theorem sc_is_place : FnScope ["place", "words"] ["place", "words"] (defScope s_is_place) := ⟨rfl, rfl, rfl, by decide +kernel, rfl, by decide +kernel, by decide +kernel⟩
theorem ok_is_place {f : Addr} {fd : FuncData} (F : Fun K "is_place" "is_place" s_is_place f fd) (T : TB mg) : FnOk P w K mg base (CXF P w) true 1 f fd ["place", "words"] sp_place := by
  refine F.okX sc_is_place (fun vs H Q E h => ?_) (fun cdv A outer s H vs Q E hr h hX => ?_)
  · obtain ⟨p, a, xs, rfl, _⟩ := h
    rfl
  · obtain ⟨p, a, xs, rfl, ha, q⟩ := h
    refine ⟨_, (@pss_one _ _ _ (@ps_ret _ _ _ _ (@pe_and _ _ _ _ _ _ _ (@pe_cmpR _ _ _ _ _ _ _ _ op_le pe_int (@pv _ 0 _ _ (by rfl) (by first | exact Or.inl rfl | exact Or.inr (Or.inl rfl) | exact Or.inr (Or.inr rfl)) (by decide) (by decide)) (nomark _)) (@pe_one _ _ _ _ _ (@pe_cmpR _ _ _ _ _ _ _ _ op_lt (@pv _ 0 _ _ (by rfl) (by first | exact Or.inl rfl | exact Or.inr (Or.inl rfl) | exact Or.inr (Or.inr rfl)) (by decide) (by decide)) (@pe_callB _ _ _ _ _ _ _ _ _ (call_len_seqK K) (by exact rfl) T.n_len PyProof.Rows.Boot.«len» (@pa_c _ _ _ _ _ (@pv _ 1 _ _ (by rfl) (by first | exact Or.inl rfl | exact Or.inr (Or.inl rfl) | exact Or.inr (Or.inr rfl)) (by decide) (by decide)) pa_nil (by rfl)) (by decide) (by decide) (by rfl) (by rfl)) (nomark _)))))), ?_⟩
    refine ⟨_, rfl, _, _, rfl, rfl, _, rfl, ?_⟩
    refine ite2 (fun h1 => ?_) (fun h1 => ?_)
    · refine ⟨_, rfl, _, rfl, a, _, rfl, .inl (.of ha), _, _, rfl, rfl, ?_⟩
      rw [h1, Bool.true_and] at q
      exact q
    · rw [Bool.not_eq_true] at h1
      rw [h1, Bool.false_and] at q
      exact q
theorem sc_standing_worth : FnScope ["first", "second", "terms", "pair", "worth"] ["first", "second", "terms", "pair"] (defScope s_standing_worth) := ⟨rfl, rfl, rfl, by decide +kernel, rfl, by decide +kernel, by decide +kernel⟩
theorem ok_standing_worth {f : Addr} {fd : FuncData} (F : Fun K "standing_worth" "standing_worth" s_standing_worth f fd) (T : TB mg) (D_is_place : IsDef P w K mg base true 1 "is_place" ["place", "words"] sp_place) (M_Terms_pair_worth : IsMeth P w K mg base true 1 C_Terms "pair_worth" ["self", "x", "y"] (sp_pair C_Terms)) (Tc : TermsC K C_Terms) (e_BadWay : Er K mg "BadWay" C_BadWay) : FnOk P w K mg base (CXF P w) true 2 f fd ["first", "second", "terms", "pair"] (sp_standing C_Terms C_BadWay) := by
  refine F.okX sc_standing_worth (fun vs H Q E h => ?_) (fun cdv A outer s H vs Q E hr h hX => ?_)
  · obtain ⟨f, g, t, p, c, q, rfl, _⟩ := h
    rfl
  · obtain ⟨f, g, t, p, c, ⟨i, j⟩, rfl, hf, hg, TF, hp, q1, q2⟩ := h
    obtain ⟨n, dx, l, d, vs, T1, e1, e2, e3, e4⟩ := TF
    have lx : (c.xs.map V.str).length = c.xs.length := List.length_map ..
    have ly : (c.ys.map V.str).length = c.ys.length := List.length_map ..
    refine ⟨_, (@pss_cons _ _ _ _ _ (@ps_if _ _ _ _ _ _ _ _ (@PW.pt _ _ _ (@pw_or _ _ _ _ _ _ _ (@pt_not _ _ _ _ (@pt_val _ _ _ (@pe_def _ _ _ _ _ _ _ _ _ _ _ _ D_is_place (hr.mono (by decide)) passF (@pa_c _ _ _ _ _ (@pe_ix _ _ _ _ _ _ _ (ix_tupK K) (@pv _ 3 _ _ (by rfl) (by first | exact Or.inl rfl | exact Or.inr (Or.inl rfl) | exact Or.inr (Or.inr rfl)) (by decide) (by decide)) pe_int (fun _ _ => rfl)) (@pa_c _ _ _ _ _ (@pv _ 0 _ _ (by rfl) (by first | exact Or.inl rfl | exact Or.inr (Or.inl rfl) | exact Or.inr (Or.inr rfl)) (by decide) (by decide)) pa_nil (by rfl)) (by rfl)) (by rfl) (by decide) (by rfl) (by rfl)) (by intro _; rfl))) (@pw_or1 _ _ _ _ (@pt_not _ _ _ _ (@pt_val _ _ _ (@pe_def _ _ _ _ _ _ _ _ _ _ _ _ D_is_place (hr.mono (by decide)) passF (@pa_c _ _ _ _ _ (@pe_ix _ _ _ _ _ _ _ (ix_tupK K) (@pv _ 3 _ _ (by rfl) (by first | exact Or.inl rfl | exact Or.inr (Or.inl rfl) | exact Or.inr (Or.inr rfl)) (by decide) (by decide)) pe_int (fun _ _ => rfl)) (@pa_c _ _ _ _ _ (@pv _ 1 _ _ (by rfl) (by first | exact Or.inl rfl | exact Or.inr (Or.inl rfl) | exact Or.inr (Or.inr rfl)) (by decide) (by decide)) pa_nil (by rfl)) (by rfl)) (by rfl) (by decide) (by rfl) (by rfl)) (by intro _; rfl)))))) (@pss_one _ _ _ (@ps_raise _ _ _ _ _ _ _ _ _ _ hX (by exact rfl) (by exact rfl) e_BadWay.m e_BadWay.e (@pa_c _ _ _ _ _ pe_str pa_nil (by rfl)) (by decide) (by rfl) (by rfl))) pss_nil) (@pss_cons _ _ _ _ _ (@ps_set _ _ (4) _ _ _ _ sc_standing_worth.nd (by exact rfl) (Or.inl rfl) (@pe_methD _ _ _ _ _ _ _ _ _ _ _ _ _ _ _ _ (@pv _ 2 _ _ (by rfl) (by first | exact Or.inl rfl | exact Or.inr (Or.inl rfl) | exact Or.inr (Or.inr rfl)) (by decide) (by decide)) M_Terms_pair_worth (hr.mono (by decide)) passF (@pa_c _ _ _ _ _ (@pe_ix _ _ _ _ _ _ _ (ix_listK K) (@pv _ 0 _ _ (by rfl) (by first | exact Or.inl rfl | exact Or.inr (Or.inl rfl) | exact Or.inr (Or.inr rfl)) (by decide) (by decide)) (@pe_ix _ _ _ _ _ _ _ (ix_tupK K) (@pv _ 3 _ _ (by rfl) (by first | exact Or.inl rfl | exact Or.inr (Or.inl rfl) | exact Or.inr (Or.inr rfl)) (by decide) (by decide)) pe_int (fun _ _ => rfl)) (fun _ _ => rfl)) (@pa_c _ _ _ _ _ (@pe_ix _ _ _ _ _ _ _ (ix_listK K) (@pv _ 1 _ _ (by rfl) (by first | exact Or.inl rfl | exact Or.inr (Or.inl rfl) | exact Or.inr (Or.inr rfl)) (by decide) (by decide)) (@pe_ix _ _ _ _ _ _ _ (ix_tupK K) (@pv _ 3 _ _ (by rfl) (by first | exact Or.inl rfl | exact Or.inr (Or.inl rfl) | exact Or.inr (Or.inr rfl)) (by decide) (by decide)) pe_int (fun _ _ => rfl)) (fun _ _ => rfl)) pa_nil (by rfl)) (by rfl)) (by rfl) (by rfl) (by rfl)) (by rfl) (by first | exact .inl rfl | exact .inr rfl | assumption)) (@pss_cons _ _ _ _ _ (@ps_if _ _ _ _ _ _ _ _ (@pt_cmp _ _ _ _ _ _ (@pc_isN _ _ _ _ _ (@pv _ 4 _ _ (by rfl) (by first | exact Or.inl rfl | exact Or.inr (Or.inl rfl) | exact Or.inr (Or.inr rfl)) (by decide) (by decide))) (by first | exact nobehind _ (by decide) (by decide) | rfl)) (@pss_one _ _ _ (@ps_raise _ _ _ _ _ _ _ _ _ _ hX (by exact rfl) (by exact rfl) e_BadWay.m e_BadWay.e (@pa_c _ _ _ _ _ pe_str pa_nil (by rfl)) (by decide) (by rfl) (by rfl))) pss_nil) (@pss_one _ _ _ (@ps_ret _ _ _ _ (@pv _ 4 _ _ (by rfl) (by first | exact Or.inl rfl | exact Or.inr (Or.inl rfl) | exact Or.inr (Or.inr rfl)) (by decide) (by decide))))))), ?_⟩
    have bad : ¬ ((0 ≤ i ∧ i < (c.xs.length : Int)) ∧ (0 ≤ j ∧ j < (c.ys.length : Int))) → E (.ref C_BadWay) none H := fun hh => q2 (Case.pw_out (p := (i, j)) hh) H (.refl H)
    refine ⟨_, rfl, p, _, 0, _, rfl, rfl, .of hp, atI_nat (j := 0) rfl, _, rfl, i, f, _, rfl, hf, _, rfl, ?_⟩
    refine ite2 (fun h1 => ?_) (fun h1 => ?_)
    · refine ⟨one_line, bad fun z => ?_⟩
      rw [lx] at h1
      simp [z.1.1, z.1.2] at h1
    rw [lx] at h1
    have h1 : 0 ≤ i ∧ i < (c.xs.length : Int) := by simpa using h1
    refine ⟨_, rfl, p, _, 1, _, rfl, rfl, .of hp, atI_nat (j := 1) rfl, _, rfl, j, g, _, rfl, hg, _, rfl, ?_⟩
    refine ite2 (fun h2 => ?_) (fun h2 => ?_)
    · refine ⟨one_line, bad fun z => ?_⟩
      rw [ly] at h2
      simp [z.2.1, z.2.2] at h2
    rw [ly] at h2
    have h2 : 0 ≤ j ∧ j < (c.ys.length : Int) := by simpa using h2
    obtain ⟨x, hx1, hx2⟩ := wd_in h1.1 h1.2
    obtain ⟨y, hy1, hy2⟩ := wd_in h2.1 h2.2
    have ep : c.pw (i, j) = pairW n.same c.fs x y := by rw [e1]; exact Case.pw_of hx1 hy1
    refine ⟨_, rfl, t, dx, _, rfl, T1.ob, l_pair_worth n l d, _, rfl, _, rfl, p, _, 0, _, rfl, rfl, .of hp, atI_nat (j := 0) rfl, f, _, i, _, rfl, rfl, .of hf, hx2, _, rfl, _, rfl, p, _, 1, _, rfl, rfl, .of hp, atI_nat (j := 1) rfl, g, _, j, _, rfl, rfl, .of hg, hy2, t, x, y, n, c.fs, dx, l, d, vs, rfl, T1, fun H1 s1 => ?_⟩
    cases e : pairW n.same c.fs x y with
    | none =>
      refine ⟨_, rfl, _, rfl, ?_⟩
      refine iteT ?_
      exact ⟨one_line, q2 (ep.trans e) H1 s1⟩
    | some w =>
      refine ⟨_, rfl, _, rfl, ?_⟩
      refine ite2 (fun hh => absurd hh (by simp [optV])) (fun _ => ?_)
      exact ⟨_, rfl, q1 w (ep.trans e) H1 s1⟩
theorem sc_price_between : FnScope ["terms", "pair", "later", "left_out", "put_in"] ["terms", "pair", "later"] (defScope s_price_between) := ⟨rfl, rfl, rfl, by decide +kernel, rfl, by decide +kernel, by decide +kernel⟩
theorem ok_price_between {f : Addr} {fd : FuncData} (F : Fun K "price_between" "price_between" s_price_between f fd) (T : TB mg) (Tc : TermsC K C_Terms) (e_BadWay : Er K mg "BadWay" C_BadWay) : FnOk P w K mg base (CXF P w) true 1 f fd ["terms", "pair", "later"] (sp_price C_Terms C_BadWay) := by
  refine F.okX sc_price_between (fun vs H Q E h => ?_) (fun cdv A outer s H vs Q E hr h hX => ?_)
  · obtain ⟨t, p, r, c, q, u, rfl, _⟩ := h
    rfl
  · obtain ⟨t, p, r, c, ⟨i, j⟩, ⟨k, m⟩, rfl, TF, no, hp, hr2, q1, q2⟩ := h
    obtain ⟨n, dx, l, d, vs, T1, e1, e2, e3, e4⟩ := TF
    refine ⟨_, (@pss_cons _ _ _ _ _ (@ps_set _ _ (3) _ _ _ _ sc_price_between.nd (by exact rfl) (Or.inl rfl) (@pe_op _ _ _ _ _ _ _ _ op_sub (@pe_op _ _ _ _ _ _ _ _ op_sub (@pe_ix _ _ _ _ _ _ _ (ix_tupK K) (@pv _ 2 _ _ (by rfl) (by first | exact Or.inl rfl | exact Or.inr (Or.inl rfl) | exact Or.inr (Or.inr rfl)) (by decide) (by decide)) pe_int (fun _ _ => rfl)) (@pe_ix _ _ _ _ _ _ _ (ix_tupK K) (@pv _ 1 _ _ (by rfl) (by first | exact Or.inl rfl | exact Or.inr (Or.inl rfl) | exact Or.inr (Or.inr rfl)) (by decide) (by decide)) pe_int (fun _ _ => rfl))) pe_int) (by rfl) (by first | exact .inl rfl | exact .inr rfl | assumption)) (@pss_cons _ _ _ _ _ (@ps_set _ _ (4) _ _ _ _ sc_price_between.nd (by exact rfl) (Or.inl rfl) (@pe_op _ _ _ _ _ _ _ _ op_sub (@pe_op _ _ _ _ _ _ _ _ op_sub (@pe_ix _ _ _ _ _ _ _ (ix_tupK K) (@pv _ 2 _ _ (by rfl) (by first | exact Or.inl rfl | exact Or.inr (Or.inl rfl) | exact Or.inr (Or.inr rfl)) (by decide) (by decide)) pe_int (fun _ _ => rfl)) (@pe_ix _ _ _ _ _ _ _ (ix_tupK K) (@pv _ 1 _ _ (by rfl) (by first | exact Or.inl rfl | exact Or.inr (Or.inl rfl) | exact Or.inr (Or.inr rfl)) (by decide) (by decide)) pe_int (fun _ _ => rfl))) pe_int) (by rfl) (by first | exact .inl rfl | exact .inr rfl | assumption)) (@pss_cons _ _ _ _ _ (@ps_if _ _ _ _ _ _ _ _ (@PW.pt _ _ _ (@pw_or _ _ _ _ _ _ _ (@pt_cmpR _ _ _ _ _ _ _ _ op_lt (@pv _ 3 _ _ (by rfl) (by first | exact Or.inl rfl | exact Or.inr (Or.inl rfl) | exact Or.inr (Or.inr rfl)) (by decide) (by decide)) pe_int (nomark _)) (@pw_or1 _ _ _ _ (@pt_cmpR _ _ _ _ _ _ _ _ op_lt (@pv _ 4 _ _ (by rfl) (by first | exact Or.inl rfl | exact Or.inr (Or.inl rfl) | exact Or.inr (Or.inr rfl)) (by decide) (by decide)) pe_int (nomark _))))) (@pss_one _ _ _ (@ps_raise _ _ _ _ _ _ _ _ _ _ hX (by exact rfl) (by exact rfl) e_BadWay.m e_BadWay.e (@pa_c _ _ _ _ _ pe_str pa_nil (by rfl)) (by decide) (by rfl) (by rfl))) pss_nil) (@pss_one _ _ _ (@ps_ret _ _ _ _ (@pe_op _ _ _ _ _ _ _ _ op_add (@pe_op _ _ _ _ _ _ _ _ op_mul (@pe_fldK _ K _ _ _ _ (@pv _ 0 _ _ (by rfl) (by first | exact Or.inl rfl | exact Or.inr (Or.inl rfl) | exact Or.inr (Or.inr rfl)) (by decide) (by decide)) (by rfl) (by rfl)) (@pv _ 3 _ _ (by rfl) (by first | exact Or.inl rfl | exact Or.inr (Or.inl rfl) | exact Or.inr (Or.inr rfl)) (by decide) (by decide))) (@pe_op _ _ _ _ _ _ _ _ op_mul (@pe_fldK _ K _ _ _ _ (@pv _ 0 _ _ (by rfl) (by first | exact Or.inl rfl | exact Or.inr (Or.inl rfl) | exact Or.inr (Or.inr rfl)) (by decide) (by decide)) (by rfl) (by rfl)) (@pv _ 4 _ _ (by rfl) (by first | exact Or.inl rfl | exact Or.inr (Or.inl rfl) | exact Or.inr (Or.inr rfl)) (by decide) (by decide))))))))), ?_⟩
    refine ⟨_, rfl, r, _, 0, _, rfl, rfl, .of hr2, atI_nat (j := 0) rfl, _, rfl, p, _, 0, _, rfl, rfl, .of hp, atI_nat (j := 0) rfl, _, _, rfl, rfl, _, _, rfl, rfl, ?_⟩
    refine ⟨_, rfl, r, _, 1, _, rfl, rfl, .of hr2, atI_nat (j := 1) rfl, _, rfl, p, _, 1, _, rfl, rfl, .of hp, atI_nat (j := 1) rfl, _, _, rfl, rfl, _, _, rfl, rfl, ?_⟩
    have bad : ¬ (i < k ∧ j < m) → E (.ref C_BadWay) none H := fun z => q2 (by
      rw [Bool.eq_false_iff]
      intro y
      simp only [stepOk, Bool.and_eq_true, decide_eq_true_eq] at y
      exact z y)
    refine ⟨_, rfl, _, _, rfl, rfl, _, rfl, ?_⟩
    refine ite2 (fun h1 => ?_) (fun h1 => ?_)
    · have h1 : k - i - 1 < 0 := by simpa using h1
      refine iteT ?_
      exact ⟨one_line, bad (by omega)⟩
    have h1 : ¬ k - i - 1 < 0 := by simpa using h1
    refine ⟨_, rfl, _, _, rfl, rfl, _, rfl, ?_⟩
    refine ite2 (fun h2 => ?_) (fun h2 => ?_)
    · have h2 : m - j - 1 < 0 := by simpa using h2
      exact ⟨one_line, bad (by omega)⟩
    have h2 : ¬ m - j - 1 < 0 := by simpa using h2
    have q1 := q1 (by simp [stepOk]; omega)
    have nO := no.out
    have nI := no.into
    refine ⟨_, rfl, t, C_Terms, dx, _, _, rfl, T1.ob, Tc.cl, Tc.out, l_out n l d, _, rfl, _, _, rfl, rfl, .inl ⟨by omega, by omega⟩, _, rfl, t, C_Terms, dx, _, _, rfl, T1.ob, Tc.cl, Tc.into, l_into n l d, _, rfl, _, _, rfl, rfl, .inl ⟨by omega, by omega⟩, _, _, rfl, rfl, ?_⟩
    rw [e2, e3]
    exact q1
theorem sc_way_row : FnScope ["first", "second", "terms", "way", "row", "number", "pair", "worth"] ["first", "second", "terms", "way"] (defScope s_way_row) := ⟨rfl, rfl, rfl, by decide +kernel, rfl, by decide +kernel, by decide +kernel⟩
theorem ok_way_row {f : Addr} {fd : FuncData} (F : Fun K "way_row" "way_row" s_way_row f fd) (T : TB mg) (D_standing_worth : IsDef P w K mg base true 2 "standing_worth" ["first", "second", "terms", "pair"] (sp_standing C_Terms C_BadWay)) (D_price_between : IsDef P w K mg base true 1 "price_between" ["terms", "pair", "later"] (sp_price C_Terms C_BadWay)) (e_BadWay : Er K mg "BadWay" C_BadWay) : FnOk P w K mg base (CXF P w) true 3 f fd ["first", "second", "terms", "way"] (sp_wrow C_Terms C_BadWay) := by
  refine F.okX sc_way_row (fun vs H Q E h => ?_) (fun cdv A outer s H vs Q E hr h hX => ?_)
  · obtain ⟨f, g, t, w, c, us, ps, rfl, _⟩ := h
    rfl
  · obtain ⟨f, g, t, w, c, us, ps, rfl, hf, hg, TF, no, hw, P1, hlen, q1, q2⟩ := h
    have hul := P1.1
    refine ⟨_, (@pss_cons _ _ _ _ _ (@ps_if _ _ _ _ _ _ _ _ (@pt_cmpR _ _ _ _ _ _ _ _ op_eq (@pe_callB _ _ _ _ _ _ _ _ _ (call_len_seqK K) (by exact rfl) T.n_len PyProof.Rows.Boot.«len» (@pa_c _ _ _ _ _ (@pv _ 3 _ _ (by rfl) (by first | exact Or.inl rfl | exact Or.inr (Or.inl rfl) | exact Or.inr (Or.inr rfl)) (by decide) (by decide)) pa_nil (by rfl)) (by decide) (by decide) (by rfl) (by rfl)) pe_int (nomark _)) (@pss_one _ _ _ (@ps_raise _ _ _ _ _ _ _ _ _ _ hX (by exact rfl) (by exact rfl) e_BadWay.m e_BadWay.e (@pa_c _ _ _ _ _ pe_str pa_nil (by rfl)) (by decide) (by rfl) (by rfl))) pss_nil) (@pss_cons _ _ _ _ _ (@ps_set _ _ (4) _ _ _ _ sc_way_row.nd (by exact rfl) (Or.inl rfl) (@pe_lst _ _ _ _ pa_nil) (by rfl) (by first | exact .inl rfl | exact .inr rfl | assumption)) (@pss_cons _ _ _ _ _ (@ps_for _ _ _ _ _ _ _ _ hX.own (by exact rfl) (@pi_enumK _ K _ _ _ _ _ _ _ (by exact rfl) T.n_enumerate (@pa_c _ _ _ _ _ (@pv _ 3 _ _ (by rfl) (by first | exact Or.inl rfl | exact Or.inr (Or.inl rfl) | exact Or.inr (Or.inr rfl)) (by decide) (by decide)) pa_nil (by rfl)) (by rfl) (by rfl)) (@pg_tupK _ K _ _ _ (2) _ (by exact rfl) (@pgs_cons _ _ _ _ _ (@pg_name _ _ (5) _ sc_way_row.nd (by exact rfl) (Or.inl rfl) (by first | exact .inl rfl | exact .inr rfl | assumption)) (@pgs_cons _ _ _ _ _ (@pg_name _ _ (6) _ sc_way_row.nd (by exact rfl) (Or.inl rfl) (by first | exact .inl rfl | exact .inr rfl | assumption)) pgs_nil (by rfl)) (by rfl)) (by rfl) (by rfl) (by rfl)) (@pss_cons _ _ _ _ _ (@ps_set _ _ (7) _ _ _ _ sc_way_row.nd (by exact rfl) (Or.inl rfl) (@pe_def _ _ _ _ _ _ _ _ _ _ _ _ D_standing_worth (hr.mono (by decide)) hX.pass (@pa_c _ _ _ _ _ (@pv _ 0 _ _ (by rfl) (by first | exact Or.inl rfl | exact Or.inr (Or.inl rfl) | exact Or.inr (Or.inr rfl)) (by decide) (by decide)) (@pa_c _ _ _ _ _ (@pv _ 1 _ _ (by rfl) (by first | exact Or.inl rfl | exact Or.inr (Or.inl rfl) | exact Or.inr (Or.inr rfl)) (by decide) (by decide)) (@pa_c _ _ _ _ _ (@pv _ 2 _ _ (by rfl) (by first | exact Or.inl rfl | exact Or.inr (Or.inl rfl) | exact Or.inr (Or.inr rfl)) (by decide) (by decide)) (@pa_c _ _ _ _ _ (@pv _ 6 _ _ (by rfl) (by first | exact Or.inl rfl | exact Or.inr (Or.inl rfl) | exact Or.inr (Or.inr rfl)) (by decide) (by decide)) pa_nil (by rfl)) (by rfl)) (by rfl)) (by rfl)) (by rfl) (by decide) (by rfl) (by rfl)) (by rfl) (by first | exact .inl rfl | exact .inr rfl | assumption)) (@pss_cut _ _ _ _ _ (@ps_if _ _ _ _ _ _ _ _ (@pt_cmpR _ _ _ _ _ _ _ _ op_gt (@pv _ 5 _ _ (by rfl) (by first | exact Or.inl rfl | exact Or.inr (Or.inl rfl) | exact Or.inr (Or.inr rfl)) (by decide) (by decide)) pe_int (nomark _)) (@pss_one _ _ _ (@ps_set _ _ (7) _ _ _ _ sc_way_row.nd (by exact rfl) (Or.inl rfl) (@pe_op _ _ _ _ _ _ _ _ op_sub (@pe_op _ _ _ _ _ _ _ _ op_add (@pv _ 7 _ _ (by rfl) (by first | exact Or.inl rfl | exact Or.inr (Or.inl rfl) | exact Or.inr (Or.inr rfl)) (by decide) (by decide)) (@pe_ix _ _ _ _ _ _ _ (ix_listK K) (@pv _ 4 _ _ (by rfl) (by first | exact Or.inl rfl | exact Or.inr (Or.inl rfl) | exact Or.inr (Or.inr rfl)) (by decide) (by decide)) (@pe_op _ _ _ _ _ _ _ _ op_sub (@pv _ 5 _ _ (by rfl) (by first | exact Or.inl rfl | exact Or.inr (Or.inl rfl) | exact Or.inr (Or.inr rfl)) (by decide) (by decide)) pe_int) (fun _ _ => rfl))) (@pe_def _ _ _ _ _ _ _ _ _ _ _ _ D_price_between (hr.mono (by decide)) hX.pass (@pa_c _ _ _ _ _ (@pv _ 2 _ _ (by rfl) (by first | exact Or.inl rfl | exact Or.inr (Or.inl rfl) | exact Or.inr (Or.inr rfl)) (by decide) (by decide)) (@pa_c _ _ _ _ _ (@pe_ix _ _ _ _ _ _ _ (ix_listK K) (@pv _ 3 _ _ (by rfl) (by first | exact Or.inl rfl | exact Or.inr (Or.inl rfl) | exact Or.inr (Or.inr rfl)) (by decide) (by decide)) (@pe_op _ _ _ _ _ _ _ _ op_sub (@pv _ 5 _ _ (by rfl) (by first | exact Or.inl rfl | exact Or.inr (Or.inl rfl) | exact Or.inr (Or.inr rfl)) (by decide) (by decide)) pe_int) (fun _ _ => rfl)) (@pa_c _ _ _ _ _ (@pv _ 6 _ _ (by rfl) (by first | exact Or.inl rfl | exact Or.inr (Or.inl rfl) | exact Or.inr (Or.inr rfl)) (by decide) (by decide)) pa_nil (by rfl)) (by rfl)) (by rfl)) (by rfl) (by decide) (by rfl) (by rfl))) (by rfl) (by first | exact .inl rfl | exact .inr rfl | assumption))) pss_nil) (@pss_one _ _ _ (@ps_expr _ _ _ _ (@pe_bmK _ K _ _ _ _ _ _ _ _ _ _ _ PySem.F.plainAttrs_list PySem.F.slot_list_append PySem.F.type_list_append mt_append (@pv _ 4 _ _ (by rfl) (by first | exact Or.inl rfl | exact Or.inr (Or.inl rfl) | exact Or.inr (Or.inr rfl)) (by decide) (by decide)) (@pa_c _ _ _ _ _ (@pv _ 7 _ _ (by rfl) (by first | exact Or.inl rfl | exact Or.inr (Or.inl rfl) | exact Or.inr (Or.inr rfl)) (by decide) (by decide)) pa_nil (by rfl)) (by rfl) (by rfl) (by rfl) (by rfl) (by rfl) (by rfl)) (by rfl))))) (by intro _; rfl)) (@pss_one _ _ _ (@ps_ret _ _ _ _ (@pv _ 4 _ _ (by rfl) (by first | exact Or.inl rfl | exact Or.inr (Or.inl rfl) | exact Or.inr (Or.inr rfl)) (by decide) (by decide))))))), ?_⟩
    refine ⟨_, rfl, w, _, rfl, .inl (.of hw), rfl, _, rfl, ?_⟩
    refine ite2 (fun h1 => ?_) (fun h1 => ?_)
    · have h1 : us.length = 0 := by simpa using h1
      have : ps = [] := List.length_eq_zero_iff.mp (by omega)
      subst this
      exact ⟨one_line, q2 isWay_nil H (.refl H)⟩
    have h1 : us.length ≠ 0 := by simpa using h1
    refine ⟨le_line (by simp), fun r hr1 => ?_⟩
    refine ⟨_, rfl, w, rfl, ⟨_, .of (Same.upd hr1 _ _ hw)⟩, ?_⟩
    refine for_enum (xs := us) (fun i σ H' => (∃ u1 u2 u3, σ = [some (.ref f), some (.ref g), some (.ref t), some (.ref w), some (.ref r), u1, u2, u3]) ∧ Same H H' ∧ H' r = some (.lst (((List.range i).map (worthAt c ps)).map V.int)) ∧ goodTo c ps i) ?_ ?_ ?_ ?_
    · exact ⟨⟨_, _, _, rfl⟩, Same.upd hr1, upd_same, fun k hk => by omega⟩
    · rintro i σ H' hi ⟨_, s1, _⟩
      exact .of (s1 _ _ hw)
    · rintro i x y σ H' hx ⟨⟨u1, u2, u3, rfl⟩, s1, hrr, hgo⟩ hT
      have hi : i < ps.length := by rw [← hul]; exact (List.getElem?_eq_some_iff.mp hx).1
      obtain ⟨tt, ht1, ht2⟩ := P1.atN hi
      rw [hx] at ht1
      cases ht1
      have s2 : Same H (upd H' y (.tup [.int i, .ref tt])) := s1.trans (Same.upd hT)
      have hrr2 := Same.upd (o := .tup [.int i, .ref tt]) hT _ _ hrr
      refine ⟨y, _, rfl, .of upd_same, rfl, _, _, rfl, _, _, rfl, rfl, ?_⟩
      generalize upd H' y (.tup [.int i, .ref tt]) = H2 at s2 hrr2
      refine ⟨_, rfl, _, rfl, _, rfl, _, rfl, f, g, t, tt, c, pr ps i, rfl, s2 _ _ hf, s2 _ _ hg, TF.keep s2, s2 _ _ ht2, ?_, ?_⟩
      rotate_left
      · intro e H3 s3
        exact q2 (isWay_no hi (by simp [goodAt, e])) H3 (s2.trans s3)
      intro wo e H3 s3
      have s4 := s2.trans s3
      have hrr3 := s3 _ _ hrr2
      have len : (((List.range i).map (worthAt c ps)).map V.int).length < sizeLine := lt_line (by simp; omega)
      have snoc : ((List.range i).map (worthAt c ps)).map V.int ++ [.int (worthAt c ps i)] = ((List.range (i + 1)).map (worthAt c ps)).map V.int := by rw [List.range_succ]; simp
      have last : ∀ H4, Same H H4 → H4 r = some (.lst (((List.range i).map (worthAt c ps)).map V.int)) → goodAt c ps i = true → (Same H (upd H4 r (.lst (((List.range i).map (worthAt c ps)).map V.int ++ [.int (worthAt c ps i)]))) ∧ upd H4 r (.lst (((List.range i).map (worthAt c ps)).map V.int ++ [.int (worthAt c ps i)])) r = some (.lst (((List.range (i + 1)).map (worthAt c ps)).map V.int)) ∧ goodTo c ps (i + 1)) := fun H4 s5 h5 hg5 => ⟨s5.upd2 hr1, by rw [upd_same, snoc], hgo.next hg5⟩
      refine ⟨fun σ H4 => σ = [some (.ref f), some (.ref g), some (.ref t), some (.ref w), some (.ref r), some (.int i), some (.ref tt), some (.int (worthAt c ps i))] ∧ Same H H4 ∧ H4 r = some (.lst (((List.range i).map (worthAt c ps)).map V.int)) ∧ goodAt c ps i = true, ?_, ?_⟩
      · refine ⟨_, rfl, _, _, rfl, rfl, _, rfl, ?_⟩
        refine ite2 (fun h2 => ?_) (fun h2 => ?_)
        · have h2 : 0 < (i : Int) := by simpa using h2
          obtain ⟨j, rfl⟩ : ∃ j, i = j + 1 := ⟨i - 1, by omega⟩
          have e1 : (((j + 1 : Nat) : Int) - 1) = ((j : Nat) : Int) := by omega
          have hj : j < ps.length := by omega
          obtain ⟨t2, hq1, hq2⟩ := P1.atN hj
          have at1 : atI (((List.range (j + 1)).map (worthAt c ps)).map V.int) (((j + 1 : Nat) : Int) - 1) = some (.int (worthAt c ps j)) := by
            rw [e1]; exact atI_nat (by simp)
          refine ⟨_, rfl, _, rfl, _, rfl, _, _, rfl, rfl, r, _, _, _, rfl, rfl, .of hrr3, at1, _, _, rfl, rfl, _, rfl, _, rfl, _, rfl, _, _, rfl, rfl, w, _, _, _, rfl, rfl, .of (s4 _ _ hw), by rw [e1]; exact atI_nat hq1, _, rfl, t, t2, tt, c, pr ps j, pr ps (j + 1), rfl, TF.keep s4, no, s4 _ _ hq2, s4 _ _ ht2, ?_, ?_⟩
          · intro h3
            refine ⟨_, _, rfl, rfl, ?_, s4, hrr3, ?_⟩
            · simp only [worthAt, e]
              rfl
            · simp [goodAt, e, h3]
          · intro h3
            exact q2 (isWay_no hi (by simp [goodAt, h3])) H3 s4
        · have h2 : ¬ 0 < (i : Int) := by simpa using h2
          have : i = 0 := by omega
          subst this
          refine ⟨?_, s4, hrr3, by simp [goodAt, e]⟩
          simp only [worthAt, e]
          rfl
      · rintro σ H4 ⟨rfl, s5, h5, hg5⟩
        obtain ⟨a1, a2, a3⟩ := last H4 s5 h5 hg5
        exact ⟨_, rfl, .inl ⟨rfl, _, .of h5⟩, _, rfl, r, _, _, rfl, rfl, h5, len, ⟨_, _, _, rfl⟩, a1, a2, a3⟩
    · rintro σ H' ⟨⟨u1, u2, u3, rfl⟩, s1, hrr, hgo⟩
      rw [hul] at hrr hgo
      refine ⟨_, rfl, q1 (isWay_yes (fun z => h1 (by rw [hul, z]; rfl)) hgo) H' r s1 hr1 hrr⟩
theorem sc_way_worth : FnScope ["first", "second", "terms", "way"] ["first", "second", "terms", "way"] (defScope s_way_worth) := ⟨rfl, rfl, rfl, by decide +kernel, rfl, by decide +kernel, by decide +kernel⟩
theorem ok_way_worth {f : Addr} {fd : FuncData} (F : Fun K "way_worth" "way_worth" s_way_worth f fd) (T : TB mg) (D_way_row : IsDef P w K mg base true 3 "way_row" ["first", "second", "terms", "way"] (sp_wrow C_Terms C_BadWay)) : FnOk P w K mg base (CXF P w) true 4 f fd ["first", "second", "terms", "way"] (sp_wworth C_Terms C_BadWay) := by
  refine F.okX sc_way_worth (fun vs H Q E h => ?_) (fun cdv A outer s H vs Q E hr h hX => ?_)
  · obtain ⟨f, g, t, w, c, us, ps, rfl, _⟩ := h
    rfl
  · obtain ⟨f, g, t, w, c, us, ps, rfl, hf, hg, TF, no, hw, P1, hlen, q1, q2⟩ := h
    refine ⟨_, (@pss_one _ _ _ (@ps_ret _ _ _ _ (@pe_ix _ _ _ _ _ _ _ (ix_listK K) (@pe_def _ _ _ _ _ _ _ _ _ _ _ _ D_way_row (hr.mono (by decide)) hX.pass (@pa_c _ _ _ _ _ (@pv _ 0 _ _ (by rfl) (by first | exact Or.inl rfl | exact Or.inr (Or.inl rfl) | exact Or.inr (Or.inr rfl)) (by decide) (by decide)) (@pa_c _ _ _ _ _ (@pv _ 1 _ _ (by rfl) (by first | exact Or.inl rfl | exact Or.inr (Or.inl rfl) | exact Or.inr (Or.inr rfl)) (by decide) (by decide)) (@pa_c _ _ _ _ _ (@pv _ 2 _ _ (by rfl) (by first | exact Or.inl rfl | exact Or.inr (Or.inl rfl) | exact Or.inr (Or.inr rfl)) (by decide) (by decide)) (@pa_c _ _ _ _ _ (@pv _ 3 _ _ (by rfl) (by first | exact Or.inl rfl | exact Or.inr (Or.inl rfl) | exact Or.inr (Or.inr rfl)) (by decide) (by decide)) pa_nil (by rfl)) (by rfl)) (by rfl)) (by rfl)) (by rfl) (by decide) (by rfl) (by rfl)) (@pe_un _ _ _ _ _ _ un_neg pe_int) (fun _ _ => rfl)))), ?_⟩
    refine ⟨_, rfl, _, rfl, _, rfl, _, rfl, f, g, t, w, c, us, ps, rfl, hf, hg, TF, no, hw, P1, hlen, fun hy H' r s1 hr1 hrr => ?_, q2⟩
    have hne := (isWay_good hy).1
    have hp : 0 < ps.length := List.length_pos_iff.mpr hne
    obtain ⟨n, hn⟩ : ∃ n, ps.length = n + 1 := ⟨ps.length - 1, by omega⟩
    refine ⟨_, rfl, r, _, _, _, rfl, rfl, .of hrr, ?_, q1 hy H' s1⟩
    rw [rowOf, hn, List.range_succ, List.map_append, List.map_append]
    exact atI_last _ _
theorem sc__law_at : FnScope ["_law_script", "_law_k"] ["_law_script", "_law_k"] (defScope s__law_at) := ⟨rfl, rfl, rfl, by decide +kernel, rfl, by decide +kernel, by decide +kernel⟩
theorem ok__law_at {f : Addr} {fd : FuncData} (F : Fun K "_law_at" "_law_at" s__law_at f fd) (T : TB mg) : FnOk P w K mg base (CXF P w) true 1 f fd ["_law_script", "_law_k"] (sp_at K) := by
  refine F.okX sc__law_at (fun vs H Q E h => ?_) (fun cdv A outer s H vs Q E hr h hX => ?_)
  · obtain ⟨a, ns, k, rfl, _⟩ := h
    rfl
  · obtain ⟨a, ns, k, rfl, hS, h0, q⟩ := h
    refine ⟨_, (@pss_cons _ _ _ _ _ (@ps_if _ _ _ _ _ _ _ _ (@pt_cmpR _ _ _ _ _ _ _ _ op_lt (@pv _ 1 _ _ (by rfl) (by first | exact Or.inl rfl | exact Or.inr (Or.inl rfl) | exact Or.inr (Or.inr rfl)) (by decide) (by decide)) (@pe_callB _ _ _ _ _ _ _ _ _ (call_len_seqK K) (by exact rfl) T.n_len PyProof.Rows.Boot.«len» (@pa_c _ _ _ _ _ (@pv _ 0 _ _ (by rfl) (by first | exact Or.inl rfl | exact Or.inr (Or.inl rfl) | exact Or.inr (Or.inr rfl)) (by decide) (by decide)) pa_nil (by rfl)) (by decide) (by decide) (by rfl) (by rfl)) (nomark _)) (@pss_one _ _ _ (@ps_ret _ _ _ _ (@pe_ix _ _ _ _ _ _ _ (ix_listK K) (@pv _ 0 _ _ (by rfl) (by first | exact Or.inl rfl | exact Or.inr (Or.inl rfl) | exact Or.inr (Or.inr rfl)) (by decide) (by decide)) (@pv _ 1 _ _ (by rfl) (by first | exact Or.inl rfl | exact Or.inr (Or.inl rfl) | exact Or.inr (Or.inr rfl)) (by decide) (by decide)) (fun _ _ => rfl)))) pss_nil) (@pss_one _ _ _ (@ps_ret _ _ _ _ pe_int))), ?_⟩
    refine ⟨_, rfl, _, rfl, a, _, rfl, .inl hS, _, _, rfl, rfl, _, rfl, ?_⟩
    refine ite2 (fun h => ?_) (fun h => ?_)
    · have h : k < ((ns.map V.int).length : Int) := by simpa using h
      rw [List.length_map] at h
      exact ⟨_, rfl, _, rfl, a, _, k, _, rfl, rfl, hS, cell_at h0 h, q⟩
    · have h : ¬ k < ((ns.map V.int).length : Int) := by simpa using h
      rw [List.length_map] at h
      rw [cell_out h0 h] at q
      exact q
theorem sc__law_whole : FnScope ["_law_found"] ["_law_found"] (defScope s__law_whole) := ⟨rfl, rfl, rfl, by decide +kernel, rfl, by decide +kernel, by decide +kernel⟩
theorem ok__law_whole {f : Addr} {fd : FuncData} (F : Fun K "_law_whole" "_law_whole" s__law_whole f fd) (T : TB mg) : FnOk P w K mg base (CXF P w) true 1 f fd ["_law_found"] sp_whole := by
  refine F.okX sc__law_whole (fun vs H Q E h => ?_) (fun cdv A outer s H vs Q E hr h hX => ?_)
  · obtain ⟨i, rfl, _⟩ := h
    rfl
  · obtain ⟨i, rfl, q⟩ := h
    refine ⟨_, (@pss_one _ _ _ (@ps_ret _ _ _ _ (@pe_and _ _ _ _ _ _ _ (@pe_callB _ _ _ _ _ _ _ _ _ (call_isiK K) (by exact rfl) T.n_isinstance PyProof.Rows.Boot.«isinstance» (@pa_c _ _ _ _ _ (@pv _ 0 _ _ (by rfl) (by first | exact Or.inl rfl | exact Or.inr (Or.inl rfl) | exact Or.inr (Or.inr rfl)) (by decide) (by decide)) (@pa_c _ _ _ _ _ (@pe_bltn _ _ (.ty "int") _ _ (by exact rfl) T.n_int PyProof.Rows.Boot.«int» (by exact rfl) (by decide) (by decide)) pa_nil (by rfl)) (by rfl)) (by decide) (by decide) (by rfl) (by rfl)) (@pe_one _ _ _ _ _ (@pe_not _ _ _ _ (@pe_callB _ _ _ _ _ _ _ _ _ (call_isiK K) (by exact rfl) T.n_isinstance PyProof.Rows.Boot.«isinstance» (@pa_c _ _ _ _ _ (@pv _ 0 _ _ (by rfl) (by first | exact Or.inl rfl | exact Or.inr (Or.inl rfl) | exact Or.inr (Or.inr rfl)) (by decide) (by decide)) (@pa_c _ _ _ _ _ (@pe_bltn _ _ (.ty "bool") _ _ (by exact rfl) T.n_bool PyProof.Rows.Boot.«bool» (by exact rfl) (by decide) (by decide)) pa_nil (by rfl)) (by rfl)) (by decide) (by decide) (by rfl) (by rfl))))))), ?_⟩
    refine ⟨_, rfl, _, _, _, true, _, rfl, rfl, .int i, rfl, _, rfl, ?_⟩
    refine iteT ?_
    exact ⟨_, rfl, _, _, _, false, _, rfl, rfl, .int i, by kernel_rfl, _, rfl, q⟩
theorem sc__law_bank : FnScope ["_law_cell", "_law_other", "_law_many", "_law_letters", "_law_stem", "_law_rest", "_law_k", "_law_size", "_law_found", "_law_spot", "_law_sign"] ["_law_cell", "_law_other", "_law_many"] (defScope s__law_bank) := ⟨rfl, rfl, rfl, by decide +kernel, rfl, by decide +kernel, by decide +kernel⟩
theorem ok__law_bank {f : Addr} {fd : FuncData} (F : Fun K "_law_bank" "_law_bank" s__law_bank f fd) (T : TB mg) : FnOk P w K mg base (CXF P w) true 1 f fd ["_law_cell", "_law_other", "_law_many"] sp_bank := by
  refine F.okX sc__law_bank (fun vs H Q E h => ?_) (fun cdv A outer s H vs Q E hr h hX => ?_)
  · obtain ⟨cell, other, many, rfl, _⟩ := h
    rfl
  · obtain ⟨cell, other, many, rfl, hm0, hm, q⟩ := h
    have l26 := abc_len
    have c26 : (0 : Int) < 26 := by decide
    have c12 : (0 : Int) < 12 := by decide
    refine ⟨_, (@pss_cons _ _ _ _ _ (@ps_set _ _ (3) _ _ _ _ sc__law_bank.nd (by exact rfl) (Or.inl rfl) pe_str (by rfl) (by first | exact .inl rfl | exact .inr rfl | assumption)) (@pss_cons _ _ _ _ _ (@ps_set _ _ (4) _ _ _ _ sc__law_bank.nd (by exact rfl) (Or.inl rfl) pe_str (by rfl) (by first | exact .inl rfl | exact .inr rfl | assumption)) (@pss_cons _ _ _ _ _ (@ps_set _ _ (5) _ _ _ _ sc__law_bank.nd (by exact rfl) (Or.inl rfl) (@pe_op _ _ _ _ _ _ _ _ op_fdiv (@pv _ 0 _ _ (by rfl) (by first | exact Or.inl rfl | exact Or.inr (Or.inl rfl) | exact Or.inr (Or.inr rfl)) (by decide) (by decide)) pe_int) (by rfl) (by first | exact .inl rfl | exact .inr rfl | assumption)) (@pss_cons _ _ _ _ _ (@ps_for _ _ _ _ _ _ _ _ hX.own (by exact rfl) (@pi_range1 _ _ _ _ _ _ (by exact rfl) T.n_range (@pa_c _ _ _ _ _ pe_int pa_nil (by rfl)) (by rfl)) (@pg_name _ _ (6) _ sc__law_bank.nd (by exact rfl) (Or.inl rfl) (by first | exact .inl rfl | exact .inr rfl | assumption)) (@pss_cons _ _ _ _ _ (@ps_set _ _ (4) _ _ _ _ sc__law_bank.nd (by exact rfl) (Or.inl rfl) (@pe_op _ _ _ _ _ _ _ _ op_add_str (@pv _ 4 _ _ (by rfl) (by first | exact Or.inl rfl | exact Or.inr (Or.inl rfl) | exact Or.inr (Or.inr rfl)) (by decide) (by decide)) (@pe_ix _ _ _ _ _ _ _ ix_str (@pv _ 3 _ _ (by rfl) (by first | exact Or.inl rfl | exact Or.inr (Or.inl rfl) | exact Or.inr (Or.inr rfl)) (by decide) (by decide)) (@pe_op _ _ _ _ _ _ _ _ op_mod (@pv _ 5 _ _ (by rfl) (by first | exact Or.inl rfl | exact Or.inr (Or.inl rfl) | exact Or.inr (Or.inr rfl)) (by decide) (by decide)) pe_int) (fun _ _ => rfl))) (by rfl) (by first | exact .inl rfl | exact .inr rfl | assumption)) (@pss_one _ _ _ (@ps_set _ _ (5) _ _ _ _ sc__law_bank.nd (by exact rfl) (Or.inl rfl) (@pe_op _ _ _ _ _ _ _ _ op_fdiv (@pv _ 5 _ _ (by rfl) (by first | exact Or.inl rfl | exact Or.inr (Or.inl rfl) | exact Or.inr (Or.inr rfl)) (by decide) (by decide)) pe_int) (by rfl) (by first | exact .inl rfl | exact .inr rfl | assumption)))) (by intro _; rfl)) (@pss_cons _ _ _ _ _ (@ps_set _ _ (7) _ _ _ _ sc__law_bank.nd (by exact rfl) (Or.inl rfl) (@pe_op _ _ _ _ _ _ _ _ op_add pe_int (@pe_op _ _ _ _ _ _ _ _ op_mod (@pe_op _ _ _ _ _ _ _ _ op_fdiv (@pv _ 0 _ _ (by rfl) (by first | exact Or.inl rfl | exact Or.inr (Or.inl rfl) | exact Or.inr (Or.inr rfl)) (by decide) (by decide)) pe_int) pe_int)) (by rfl) (by first | exact .inl rfl | exact .inr rfl | assumption)) (@pss_cons _ _ _ _ _ (@ps_set _ _ (8) _ _ _ _ sc__law_bank.nd (by exact rfl) (Or.inl rfl) (@pe_lst _ _ _ _ pa_nil) (by rfl) (by first | exact .inl rfl | exact .inr rfl | assumption)) (@pss_cons _ _ _ _ _ (@ps_for _ _ _ _ _ _ _ _ hX.own (by exact rfl) (@pi_range1 _ _ _ _ _ _ (by exact rfl) T.n_range (@pa_c _ _ _ _ _ (@pv _ 2 _ _ (by rfl) (by first | exact Or.inl rfl | exact Or.inr (Or.inl rfl) | exact Or.inr (Or.inr rfl)) (by decide) (by decide)) pa_nil (by rfl)) (by rfl)) (@pg_name _ _ (6) _ sc__law_bank.nd (by exact rfl) (Or.inl rfl) (by first | exact .inl rfl | exact .inr rfl | assumption)) (@pss_one _ _ _ (@ps_if _ _ _ _ _ _ _ _ (@pt_cmpR _ _ _ _ _ _ _ _ op_eq (@pe_op _ _ _ _ _ _ _ _ op_mod (@pv _ 0 _ _ (by rfl) (by first | exact Or.inl rfl | exact Or.inr (Or.inl rfl) | exact Or.inr (Or.inr rfl)) (by decide) (by decide)) pe_int) pe_int (nomark _)) (@pss_one _ _ _ (@ps_expr _ _ _ _ (@pe_bmK _ K _ _ _ _ _ _ _ _ _ _ _ PySem.F.plainAttrs_list PySem.F.slot_list_append PySem.F.type_list_append mt_append (@pv _ 8 _ _ (by rfl) (by first | exact Or.inl rfl | exact Or.inr (Or.inl rfl) | exact Or.inr (Or.inr rfl)) (by decide) (by decide)) (@pa_c _ _ _ _ _ (@pe_slice _ _ _ _ _ _ _ _ _ _ sl_str (@pv _ 4 _ _ (by rfl) (by first | exact Or.inl rfl | exact Or.inr (Or.inl rfl) | exact Or.inr (Or.inr rfl)) (by decide) (by decide)) po_none (@po_some _ _ _ (@pe_op _ _ _ _ _ _ _ _ op_add pe_int (@pe_op _ _ _ _ _ _ _ _ op_mod (@pe_op _ _ _ _ _ _ _ _ op_add (@pv _ 7 _ _ (by rfl) (by first | exact Or.inl rfl | exact Or.inr (Or.inl rfl) | exact Or.inr (Or.inr rfl)) (by decide) (by decide)) (@pv _ 6 _ _ (by rfl) (by first | exact Or.inl rfl | exact Or.inr (Or.inl rfl) | exact Or.inr (Or.inr rfl)) (by decide) (by decide))) pe_int)))) pa_nil (by rfl)) (by rfl) (by rfl) (by rfl) (by rfl) (by rfl) (by rfl)) (by rfl))) (@pss_cons _ _ _ _ _ (@ps_set _ _ (9) _ _ _ _ sc__law_bank.nd (by exact rfl) (Or.inl rfl) (@pe_op _ _ _ _ _ _ _ _ op_mod (@pv _ 1 _ _ (by rfl) (by first | exact Or.inl rfl | exact Or.inr (Or.inl rfl) | exact Or.inr (Or.inr rfl)) (by decide) (by decide)) (@pv _ 7 _ _ (by rfl) (by first | exact Or.inl rfl | exact Or.inr (Or.inl rfl) | exact Or.inr (Or.inr rfl)) (by decide) (by decide))) (by rfl) (by first | exact .inl rfl | exact .inr rfl | assumption)) (@pss_cons _ _ _ _ _ (@ps_set _ _ (10) _ _ _ _ sc__law_bank.nd (by exact rfl) (Or.inl rfl) (@pe_ix _ _ _ _ _ _ _ ix_str (@pv _ 3 _ _ (by rfl) (by first | exact Or.inl rfl | exact Or.inr (Or.inl rfl) | exact Or.inr (Or.inr rfl)) (by decide) (by decide)) (@pe_op _ _ _ _ _ _ _ _ op_mod (@pe_op _ _ _ _ _ _ _ _ op_add (@pe_op _ _ _ _ _ _ _ _ op_fdiv (@pv _ 1 _ _ (by rfl) (by first | exact Or.inl rfl | exact Or.inr (Or.inl rfl) | exact Or.inr (Or.inr rfl)) (by decide) (by decide)) pe_int) (@pv _ 6 _ _ (by rfl) (by first | exact Or.inl rfl | exact Or.inr (Or.inl rfl) | exact Or.inr (Or.inr rfl)) (by decide) (by decide))) pe_int) (fun _ _ => rfl)) (by rfl) (by first | exact .inl rfl | exact .inr rfl | assumption)) (@pss_one _ _ _ (@ps_expr _ _ _ _ (@pe_bmK _ K _ _ _ _ _ _ _ _ _ _ _ PySem.F.plainAttrs_list PySem.F.slot_list_append PySem.F.type_list_append mt_append (@pv _ 8 _ _ (by rfl) (by first | exact Or.inl rfl | exact Or.inr (Or.inl rfl) | exact Or.inr (Or.inr rfl)) (by decide) (by decide)) (@pa_c _ _ _ _ _ (@pe_op _ _ _ _ _ _ _ _ op_add_str (@pe_op _ _ _ _ _ _ _ _ op_add_str (@pe_slice _ _ _ _ _ _ _ _ _ _ sl_str (@pv _ 4 _ _ (by rfl) (by first | exact Or.inl rfl | exact Or.inr (Or.inl rfl) | exact Or.inr (Or.inr rfl)) (by decide) (by decide)) po_none (@po_some _ _ _ (@pv _ 9 _ _ (by rfl) (by first | exact Or.inl rfl | exact Or.inr (Or.inl rfl) | exact Or.inr (Or.inr rfl)) (by decide) (by decide)))) (@pv _ 10 _ _ (by rfl) (by first | exact Or.inl rfl | exact Or.inr (Or.inl rfl) | exact Or.inr (Or.inr rfl)) (by decide) (by decide))) (@pe_slice _ _ _ _ _ _ _ _ _ _ sl_str (@pv _ 4 _ _ (by rfl) (by first | exact Or.inl rfl | exact Or.inr (Or.inl rfl) | exact Or.inr (Or.inr rfl)) (by decide) (by decide)) (@po_some _ _ _ (@pe_op _ _ _ _ _ _ _ _ op_add (@pv _ 9 _ _ (by rfl) (by first | exact Or.inl rfl | exact Or.inr (Or.inl rfl) | exact Or.inr (Or.inr rfl)) (by decide) (by decide)) pe_int)) (@po_some _ _ _ (@pv _ 7 _ _ (by rfl) (by first | exact Or.inl rfl | exact Or.inr (Or.inl rfl) | exact Or.inr (Or.inr rfl)) (by decide) (by decide))))) pa_nil (by rfl)) (by rfl) (by rfl) (by rfl) (by rfl) (by rfl) (by rfl)) (by rfl))))))) (by intro _; rfl)) (@pss_one _ _ _ (@ps_ret _ _ _ _ (@pv _ 8 _ _ (by rfl) (by first | exact Or.inl rfl | exact Or.inr (Or.inl rfl) | exact Or.inr (Or.inr rfl)) (by decide) (by decide))))))))))), ?_⟩
    refine ⟨_, rfl, _, _, rfl, rfl, ⟨by decide, by decide⟩, ?_⟩
    refine ⟨12, rfl, by decide, by decide, ?_⟩
    refine for_range (fun i σ H' => H' = H ∧ ∃ (stem : Str) (rest : Int) (kv : Option V), stem.length = i ∧ lows stem ∧ σ = [some (.int cell), some (.int other), some (.int many), some (.str abc), some (.str stem), some (.int rest), kv, none, none, none, none]) ⟨rfl, _, _, _, (by decide +kernel), (show (Str.ofString "").cps.toList.all low = true by decide +kernel), rfl⟩ ?_ ?_
    · rintro i σ H' hi ⟨rfl, stem, rest, kv, hl, hlow, rfl⟩
      have hi : i < 12 := hi
      refine ⟨_, rfl, _, rfl, _, rfl, _, _, rfl, rfl, c26, _, _, _, rfl, rfl, le_line (by omega), abc_is, _, _, rfl, rfl, le_line (show stem.length + 1 ≤ 100000 by omega), ?_⟩
      refine ⟨_, rfl, _, _, rfl, rfl, ⟨by decide, by decide⟩, rfl, _, _, _, ?_, ?_, rfl⟩
      · rw [len_app, hl]; rfl
      · have h1 : stem.cps.toList.all low = true := hlow
        have h2 := low_abc rest
        unfold lows
        rw [app_cps, List.all_append, h1]
        simp [h2]
    · rintro σ H' ⟨rfl, stem, rest, kv, hl, hlow, rfl⟩
      have hl : stem.length = 12 := hl
      refine ⟨_, rfl, _, _, rfl, rfl, ⟨by decide, by decide⟩, _, _, rfl, rfl, c12, _, _, rfl, rfl, ?_⟩
      have z0 : 1 ≤ 1 + cell / 2 % 12 ∧ 1 + cell / 2 % 12 ≤ 12 := by omega
      refine ⟨le_line (by simp), fun D hD => ?_⟩
      refine ⟨_, rfl, many, rfl, by omega, by omega, ?_⟩
      refine for_range (fun i σ H2 => (∃ u v w, σ = [some (.int cell), some (.int other), some (.int many), some (.str abc), some (.str stem), some (.int rest), u, some (.int (1 + cell / 2 % 12)), some (.ref D), v, w]) ∧ H2 D = some (.lst (((List.range i).map (bankW stem cell other)).map V.str)) ∧ Same H' H2) ⟨⟨_, _, _, rfl⟩, upd_same, Same.upd hD⟩ ?_ ?_
      · rintro i σ H2 hi ⟨⟨u, v, w, rfl⟩, hD2, s2⟩
        have hi : i < 12 := by omega
        have nx : ∀ z, z = bankW stem cell other i → (List.range i).map (fun k => V.str (bankW stem cell other k)) ++ [V.str z] = ((List.range (i + 1)).map (bankW stem cell other)).map V.str := fun z e => by
          rw [List.range_succ, e]; simp
        have hlt : (((List.range i).map (bankW stem cell other)).map V.str).length < sizeLine := lt_line (by simp; omega)
        refine ⟨_, rfl, _, _, rfl, rfl, (show (0 : Int) < 2 by decide), rfl, _, rfl, ?_⟩
        refine ite2 (fun h => ?_) (fun h => ?_)
        · have h : cell % 2 = 1 := by simpa using h
          refine ⟨_, rfl, .inl ⟨rfl, _, .of hD2⟩, _, rfl, _, rfl, _, rfl, _, _, rfl, rfl, _, _, rfl, rfl, c12, _, _, rfl, rfl, _, rfl, stem, rfl, le_line (by omega), D, _, _, rfl, rfl, hD2, hlt, ⟨_, _, _, rfl⟩, ?_, s2.upd2 hD⟩
          rw [upd_same]
          have := nx (Txt.slice stem none (some (1 + (1 + cell / 2 % 12 + (0 + (i : Int))) % 12))) (by simp [bankW, h])
          rw [← this]; simp
        · have h : ¬ cell % 2 = 1 := by simpa using h
          have z1 : 0 ≤ other % (1 + cell / 2 % 12) ∧ other % (1 + cell / 2 % 12) < 1 + cell / 2 % 12 := ⟨Int.emod_nonneg _ (by omega), Int.emod_lt_of_pos _ (by omega)⟩
          have b1 := slice_len stem none (some (other % (1 + cell / 2 % 12)))
          have b2 := slice_len stem (some (other % (1 + cell / 2 % 12) + 1)) (some (1 + cell / 2 % 12))
          refine ⟨_, rfl, _, rfl, _, _, rfl, rfl, (show (0 : Int) < 1 + cell / 2 % 12 by omega), ?_⟩
          refine ⟨_, rfl, _, rfl, _, _, rfl, rfl, ⟨by decide, by decide⟩, _, rfl, _, _, rfl, rfl, _, _, rfl, rfl, c26, _, _, _, rfl, rfl, le_line (by omega), abc_is, ?_⟩
          refine ⟨_, rfl, .inl ⟨rfl, _, .of hD2⟩, _, rfl, _, rfl, _, rfl, stem, rfl, le_line (by omega), _, rfl, _, _, rfl, rfl, le_line (show (Txt.slice stem none (some (other % (1 + cell / 2 % 12)))).length + 1 ≤ 100000 by omega), _, rfl, _, rfl, _, _, rfl, rfl, _, rfl, _, rfl, _, rfl, stem, rfl, le_line (by omega), _, _, rfl, rfl, ?_, D, _, _, rfl, rfl, hD2, hlt, ⟨_, _, _, rfl⟩, ?_, s2.upd2 hD⟩
          · rw [len_app]
            exact le_line (show (Txt.slice stem none (some (other % (1 + cell / 2 % 12)))).length + 1 + _ ≤ 100000 by omega)
          rw [upd_same]
          have := nx (Txt.slice stem none (some (other % (1 + cell / 2 % 12))) ++ ⟨#[97 + ((other / 12 + (0 + (i : Int))) % 26).toNat]⟩ ++ Txt.slice stem (some (other % (1 + cell / 2 % 12) + 1)) (some (1 + cell / 2 % 12))) (by simp [bankW, h])
          rw [← this]; simp
      · rintro σ H2 ⟨⟨u, v, w, rfl⟩, hD2, s2⟩
        refine ⟨_, rfl, q H2 D _ s2 hD hD2 (by simp) ?_ (bank_nodup hl cell other (by omega))⟩
        intro z hz
        obtain ⟨k, _, rfl⟩ := List.mem_map.mp hz
        exact bank_isW hl hlow cell other k
theorem sc__law_book : FnScope ["_law_script", "_law_cell", "_law_spot", "_law_many", "_law_bank_here", "_law_book_here", "_law_rest", "_law_k"] ["_law_script", "_law_cell", "_law_spot", "_law_many", "_law_bank_here"] (defScope s__law_book) := ⟨rfl, rfl, rfl, by decide +kernel, rfl, by decide +kernel, by decide +kernel⟩
theorem ok__law_book {f : Addr} {fd : FuncData} (F : Fun K "_law_book" "_law_book" s__law_book f fd) (T : TB mg) (D__law_at : IsDef P w K mg base true 1 "_law_at" ["_law_script", "_law_k"] (sp_at K)) : FnOk P w K mg base (CXF P w) true 2 f fd ["_law_script", "_law_cell", "_law_spot", "_law_many", "_law_bank_here"] (sp_book K) := by
  refine F.okX sc__law_book (fun vs H Q E h => ?_) (fun cdv A outer s H vs Q E hr h hX => ?_)
  · obtain ⟨a, b, ns, zs, c, p, m, rfl, _⟩ := h
    rfl
  · obtain ⟨a, b, ns, zs, c, p, m, rfl, hS, hb, ⟨hz1, hz2⟩, hp0, hm0, hm1, q⟩ := h
    refine ⟨_, (@pss_cons _ _ _ _ _ (@ps_set _ _ (5) _ _ _ _ sc__law_book.nd (by exact rfl) (Or.inl rfl) (@pe_lst _ _ _ _ pa_nil) (by rfl) (by first | exact .inl rfl | exact .inr rfl | assumption)) (@pss_cons _ _ _ _ _ (@ps_set _ _ (6) _ _ _ _ sc__law_book.nd (by exact rfl) (Or.inl rfl) (@pv _ 1 _ _ (by rfl) (by first | exact Or.inl rfl | exact Or.inr (Or.inl rfl) | exact Or.inr (Or.inr rfl)) (by decide) (by decide)) (by rfl) (by first | exact .inl rfl | exact .inr rfl | assumption)) (@pss_cons _ _ _ _ _ (@ps_for _ _ _ _ _ _ _ _ hX.own (by exact rfl) (@pi_range1 _ _ _ _ _ _ (by exact rfl) T.n_range (@pa_c _ _ _ _ _ (@pv _ 3 _ _ (by rfl) (by first | exact Or.inl rfl | exact Or.inr (Or.inl rfl) | exact Or.inr (Or.inr rfl)) (by decide) (by decide)) pa_nil (by rfl)) (by rfl)) (@pg_name _ _ (7) _ sc__law_book.nd (by exact rfl) (Or.inl rfl) (by first | exact .inl rfl | exact .inr rfl | assumption)) (@pss_cons _ _ _ _ _ (@ps_expr _ _ _ _ (@pe_bmK _ K _ _ _ _ _ _ _ _ _ _ _ PySem.F.plainAttrs_list PySem.F.slot_list_append PySem.F.type_list_append mt_append (@pv _ 5 _ _ (by rfl) (by first | exact Or.inl rfl | exact Or.inr (Or.inl rfl) | exact Or.inr (Or.inr rfl)) (by decide) (by decide)) (@pa_c _ _ _ _ _ (@pe_ix _ _ _ _ _ _ _ (ix_listK K) (@pv _ 4 _ _ (by rfl) (by first | exact Or.inl rfl | exact Or.inr (Or.inl rfl) | exact Or.inr (Or.inr rfl)) (by decide) (by decide)) (@pe_op _ _ _ _ _ _ _ _ op_mod (@pe_op _ _ _ _ _ _ _ _ op_add (@pe_op _ _ _ _ _ _ _ _ op_add (@pv _ 6 _ _ (by rfl) (by first | exact Or.inl rfl | exact Or.inr (Or.inl rfl) | exact Or.inr (Or.inr rfl)) (by decide) (by decide)) (@pv _ 7 _ _ (by rfl) (by first | exact Or.inl rfl | exact Or.inr (Or.inl rfl) | exact Or.inr (Or.inr rfl)) (by decide) (by decide))) (@pe_def _ _ _ _ _ _ _ _ _ _ _ _ D__law_at (hr.mono (by decide)) passF (@pa_c _ _ _ _ _ (@pv _ 0 _ _ (by rfl) (by first | exact Or.inl rfl | exact Or.inr (Or.inl rfl) | exact Or.inr (Or.inr rfl)) (by decide) (by decide)) (@pa_c _ _ _ _ _ (@pe_op _ _ _ _ _ _ _ _ op_add (@pv _ 2 _ _ (by rfl) (by first | exact Or.inl rfl | exact Or.inr (Or.inl rfl) | exact Or.inr (Or.inr rfl)) (by decide) (by decide)) (@pv _ 7 _ _ (by rfl) (by first | exact Or.inl rfl | exact Or.inr (Or.inl rfl) | exact Or.inr (Or.inr rfl)) (by decide) (by decide))) pa_nil (by rfl)) (by rfl)) (by rfl) (by decide) (by rfl) (by rfl))) (@pe_callB _ _ _ _ _ _ _ _ _ (call_len_seqK K) (by exact rfl) T.n_len PyProof.Rows.Boot.«len» (@pa_c _ _ _ _ _ (@pv _ 4 _ _ (by rfl) (by first | exact Or.inl rfl | exact Or.inr (Or.inl rfl) | exact Or.inr (Or.inr rfl)) (by decide) (by decide)) pa_nil (by rfl)) (by decide) (by decide) (by rfl) (by rfl))) (fun _ _ => rfl)) pa_nil (by rfl)) (by rfl) (by rfl) (by rfl) (by rfl) (by rfl) (by rfl)) (by rfl)) (@pss_one _ _ _ (@ps_set _ _ (6) _ _ _ _ sc__law_book.nd (by exact rfl) (Or.inl rfl) (@pe_op _ _ _ _ _ _ _ _ op_fdiv (@pv _ 6 _ _ (by rfl) (by first | exact Or.inl rfl | exact Or.inr (Or.inl rfl) | exact Or.inr (Or.inr rfl)) (by decide) (by decide)) (@pe_callB _ _ _ _ _ _ _ _ _ (call_len_seqK K) (by exact rfl) T.n_len PyProof.Rows.Boot.«len» (@pa_c _ _ _ _ _ (@pv _ 4 _ _ (by rfl) (by first | exact Or.inl rfl | exact Or.inr (Or.inl rfl) | exact Or.inr (Or.inr rfl)) (by decide) (by decide)) pa_nil (by rfl)) (by decide) (by decide) (by rfl) (by rfl))) (by rfl) (by first | exact .inl rfl | exact .inr rfl | assumption)))) (by intro _; rfl)) (@pss_one _ _ _ (@ps_ret _ _ _ _ (@pv _ 5 _ _ (by rfl) (by first | exact Or.inl rfl | exact Or.inr (Or.inl rfl) | exact Or.inr (Or.inr rfl)) (by decide) (by decide))))))), ?_⟩
    refine ⟨le_line (by simp), fun l hl => ?_⟩
    refine ⟨_, rfl, ?_⟩
    refine ⟨_, rfl, m, rfl, by omega, by omega, ?_⟩
    refine for_range (fun i σ H' => (∃ r u, σ = [some (.ref a), some (.int c), some (.int p), some (.int m), some (.ref b), some (.ref l), some (.int r), u]) ∧ Same H H' ∧ ∃ ws : List Str, H' l = some (.lst (ws.map V.str)) ∧ ws.length = i ∧ ∀ w ∈ ws, w ∈ zs) ⟨⟨_, _, rfl⟩, Same.upd hl, [], upd_same, rfl, fun w hw => by cases hw⟩ ?_ ?_
    · rintro i σ H' hi ⟨⟨r, u, rfl⟩, s1, ws, hl1, hw1, hw2⟩
      have hi : i < m.toNat := hi
      have hb1 := s1 _ _ hb
      have z0 : 0 ≤ (r + (0 + (i : Int)) + cell ns (p + (0 + (i : Int)))) % (zs.length : Int) := Int.emod_nonneg _ (by omega)
      have z1 : (r + (0 + (i : Int)) + cell ns (p + (0 + (i : Int)))) % (zs.length : Int) < (zs.length : Int) := Int.emod_lt_of_pos _ (by omega)
      obtain ⟨w, hw, hat⟩ := str_at zs z0 z1
      have el : (zs.map V.str).length = zs.length := List.length_map ..
      refine ⟨_, rfl, .inl ⟨rfl, _, .of hl1⟩, _, rfl, _, rfl, _, rfl, _, _, rfl, rfl, _, rfl, _, rfl, _, rfl, _, _, rfl, rfl, a, ns, _, rfl, s1.seq hS, by omega, _, _, rfl, rfl, _, rfl, b, _, rfl, .inl (.of hb1), _, _, rfl, rfl, (by rw [el]; show (0 : Int) < _; omega), b, _, _, _, rfl, rfl, .of hb1, (by rw [el]; exact hat), l, _, _, rfl, rfl, hl1, lt_line (by rw [List.length_map]; omega), ?_⟩
      have hbl : b ≠ l := ne_of_none hb hl
      have hb2 : upd H' l (.lst (ws.map V.str ++ [.str w])) b = some (.lst (zs.map V.str)) := by rw [upd_ne hbl]; exact hb1
      refine ⟨_, rfl, _, rfl, b, _, rfl, .inl (.of hb2), _, _, rfl, rfl, ⟨by rw [el]; omega, by rw [el]; omega⟩, ⟨_, _, rfl⟩, s1.upd2 hl, ws ++ [w], ?_, by simp [hw1], ?_⟩
      · rw [upd_same]; simp
      · intro x hx
        rcases List.mem_append.mp hx with hx | hx
        · exact hw2 x hx
        · have : x = w := by simpa using hx
          rw [this]; exact hw
    · rintro σ H' ⟨⟨r, u, rfl⟩, s1, ws, hl1, hw1, hw2⟩
      exact ⟨_, rfl, q H' l ws s1 hl hl1 hw1 hw2⟩
theorem sc__law_quote : FnScope ["_law_script", "_law_cell", "_law_spot", "_law_many", "_law_first", "_law_bank_here", "_law_book_here", "_law_rest", "_law_place", "_law_k", "_law_pick"] ["_law_script", "_law_cell", "_law_spot", "_law_many", "_law_first", "_law_bank_here"] (defScope s__law_quote) := ⟨rfl, rfl, rfl, by decide +kernel, rfl, by decide +kernel, by decide +kernel⟩
theorem ok__law_quote {f : Addr} {fd : FuncData} (F : Fun K "_law_quote" "_law_quote" s__law_quote f fd) (T : TB mg) (D__law_at : IsDef P w K mg base true 1 "_law_at" ["_law_script", "_law_k"] (sp_at K)) : FnOk P w K mg base (CXF P w) true 2 f fd ["_law_script", "_law_cell", "_law_spot", "_law_many", "_law_first", "_law_bank_here"] (sp_quote K) := by
  refine F.okX sc__law_quote (fun vs H Q E h => ?_) (fun cdv A outer s H vs Q E hr h hX => ?_)
  · obtain ⟨a, b, x, ns, zs, ws0, c, p, m, rfl, _⟩ := h
    rfl
  · obtain ⟨a, b, x, ns, zs, ws0, c, p, m, rfl, hS, hb, hx, ⟨hz1, hz2⟩, hx2, hxz, hp0, hm0, hm1, q⟩ := h
    have hu := hr.units
    have hu0 : (A.deeper (PyProof.Rows.envOfC "_law_quote" (defScope s__law_quote) s.heap.objs.size f cdv)).units < cLine := by omega
    have c8 : (0 : Int) < 8 := by decide
    refine ⟨_, (@pss_cons _ _ _ _ _ (@ps_set _ _ (6) _ _ _ _ sc__law_quote.nd (by exact rfl) (Or.inl rfl) (@pe_lst _ _ _ _ pa_nil) (by rfl) (by first | exact .inl rfl | exact .inr rfl | assumption)) (@pss_cons _ _ _ _ _ (@ps_set _ _ (7) _ _ _ _ sc__law_quote.nd (by exact rfl) (Or.inl rfl) (@pv _ 1 _ _ (by rfl) (by first | exact Or.inl rfl | exact Or.inr (Or.inl rfl) | exact Or.inr (Or.inr rfl)) (by decide) (by decide)) (by rfl) (by first | exact .inl rfl | exact .inr rfl | assumption)) (@pss_cons _ _ _ _ _ (@ps_set _ _ (8) _ _ _ _ sc__law_quote.nd (by exact rfl) (Or.inl rfl) pe_int (by rfl) (by first | exact .inl rfl | exact .inr rfl | assumption)) (@pss_cons _ _ _ _ _ (@ps_for _ _ _ _ _ _ _ _ hX.own (by exact rfl) (@pi_range1 _ _ _ _ _ _ (by exact rfl) T.n_range (@pa_c _ _ _ _ _ (@pv _ 3 _ _ (by rfl) (by first | exact Or.inl rfl | exact Or.inr (Or.inl rfl) | exact Or.inr (Or.inr rfl)) (by decide) (by decide)) pa_nil (by rfl)) (by rfl)) (@pg_name _ _ (9) _ sc__law_quote.nd (by exact rfl) (Or.inl rfl) (by first | exact .inl rfl | exact .inr rfl | assumption)) (@pss_cons _ _ _ _ _ (@ps_set _ _ (10) _ _ _ _ sc__law_quote.nd (by exact rfl) (Or.inl rfl) (@pe_op _ _ _ _ _ _ _ _ op_add (@pv _ 7 _ _ (by rfl) (by first | exact Or.inl rfl | exact Or.inr (Or.inl rfl) | exact Or.inr (Or.inr rfl)) (by decide) (by decide)) (@pe_def _ _ _ _ _ _ _ _ _ _ _ _ D__law_at (hr.mono (by decide)) passF (@pa_c _ _ _ _ _ (@pv _ 0 _ _ (by rfl) (by first | exact Or.inl rfl | exact Or.inr (Or.inl rfl) | exact Or.inr (Or.inr rfl)) (by decide) (by decide)) (@pa_c _ _ _ _ _ (@pe_op _ _ _ _ _ _ _ _ op_add (@pv _ 2 _ _ (by rfl) (by first | exact Or.inl rfl | exact Or.inr (Or.inl rfl) | exact Or.inr (Or.inr rfl)) (by decide) (by decide)) (@pv _ 9 _ _ (by rfl) (by first | exact Or.inl rfl | exact Or.inr (Or.inl rfl) | exact Or.inr (Or.inr rfl)) (by decide) (by decide))) pa_nil (by rfl)) (by rfl)) (by rfl) (by decide) (by rfl) (by rfl))) (by rfl) (by first | exact .inl rfl | exact .inr rfl | assumption)) (@pss_cons _ _ _ _ _ (@ps_set _ _ (7) _ _ _ _ sc__law_quote.nd (by exact rfl) (Or.inl rfl) (@pe_op _ _ _ _ _ _ _ _ op_fdiv (@pv _ 7 _ _ (by rfl) (by first | exact Or.inl rfl | exact Or.inr (Or.inl rfl) | exact Or.inr (Or.inr rfl)) (by decide) (by decide)) (@pe_op _ _ _ _ _ _ _ _ op_mul pe_int (@pe_callB _ _ _ _ _ _ _ _ _ (call_len_seqK K) (by exact rfl) T.n_len PyProof.Rows.Boot.«len» (@pa_c _ _ _ _ _ (@pv _ 5 _ _ (by rfl) (by first | exact Or.inl rfl | exact Or.inr (Or.inl rfl) | exact Or.inr (Or.inr rfl)) (by decide) (by decide)) pa_nil (by rfl)) (by decide) (by decide) (by rfl) (by rfl)))) (by rfl) (by first | exact .inl rfl | exact .inr rfl | assumption)) (@pss_one _ _ _ (@ps_if _ _ _ _ _ _ _ _ (@PW.pt _ _ _ (@pw_and _ _ _ _ _ _ _ (@pt_cmpR _ _ _ _ _ _ _ _ op_lt (@pe_op _ _ _ _ _ _ _ _ op_mod (@pv _ 10 _ _ (by rfl) (by first | exact Or.inl rfl | exact Or.inr (Or.inl rfl) | exact Or.inr (Or.inr rfl)) (by decide) (by decide)) pe_int) pe_int (nomark _)) (@pw_and1 _ _ _ _ (@pt_cmpR _ _ _ _ _ _ _ _ (op_ne_nilK K hu0) (@pv _ 4 _ _ (by rfl) (by first | exact Or.inl rfl | exact Or.inr (Or.inl rfl) | exact Or.inr (Or.inr rfl)) (by decide) (by decide)) (@pe_lst _ _ _ _ pa_nil) (nomark _))))) (@pss_cons _ _ _ _ _ (@ps_set _ _ (8) _ _ _ _ sc__law_quote.nd (by exact rfl) (Or.inl rfl) (@pe_op _ _ _ _ _ _ _ _ op_add (@pv _ 8 _ _ (by rfl) (by first | exact Or.inl rfl | exact Or.inr (Or.inl rfl) | exact Or.inr (Or.inr rfl)) (by decide) (by decide)) (@pe_callTy _ _ _ _ _ _ _ _ _ call_int1 (by exact rfl) T.n_int PyProof.Rows.Boot.«int» (@pa_c _ _ _ _ _ (@pe_cmpR _ _ _ _ _ _ _ _ op_eq (@pe_op _ _ _ _ _ _ _ _ op_mod (@pv _ 10 _ _ (by rfl) (by first | exact Or.inl rfl | exact Or.inr (Or.inl rfl) | exact Or.inr (Or.inr rfl)) (by decide) (by decide)) pe_int) pe_int (nomark _)) pa_nil (by rfl)) (by decide) (by decide) (by rfl) (by rfl))) (by rfl) (by first | exact .inl rfl | exact .inr rfl | assumption)) (@pss_cons _ _ _ _ _ (@ps_expr _ _ _ _ (@pe_bmK _ K _ _ _ _ _ _ _ _ _ _ _ PySem.F.plainAttrs_list PySem.F.slot_list_append PySem.F.type_list_append mt_append (@pv _ 6 _ _ (by rfl) (by first | exact Or.inl rfl | exact Or.inr (Or.inl rfl) | exact Or.inr (Or.inr rfl)) (by decide) (by decide)) (@pa_c _ _ _ _ _ (@pe_ix _ _ _ _ _ _ _ (ix_listK K) (@pv _ 4 _ _ (by rfl) (by first | exact Or.inl rfl | exact Or.inr (Or.inl rfl) | exact Or.inr (Or.inr rfl)) (by decide) (by decide)) (@pe_op _ _ _ _ _ _ _ _ op_mod (@pv _ 8 _ _ (by rfl) (by first | exact Or.inl rfl | exact Or.inr (Or.inl rfl) | exact Or.inr (Or.inr rfl)) (by decide) (by decide)) (@pe_callB _ _ _ _ _ _ _ _ _ (call_len_seqK K) (by exact rfl) T.n_len PyProof.Rows.Boot.«len» (@pa_c _ _ _ _ _ (@pv _ 4 _ _ (by rfl) (by first | exact Or.inl rfl | exact Or.inr (Or.inl rfl) | exact Or.inr (Or.inr rfl)) (by decide) (by decide)) pa_nil (by rfl)) (by decide) (by decide) (by rfl) (by rfl))) (fun _ _ => rfl)) pa_nil (by rfl)) (by rfl) (by rfl) (by rfl) (by rfl) (by rfl) (by rfl)) (by rfl)) (@pss_one _ _ _ (@ps_set _ _ (8) _ _ _ _ sc__law_quote.nd (by exact rfl) (Or.inl rfl) (@pe_op _ _ _ _ _ _ _ _ op_add (@pv _ 8 _ _ (by rfl) (by first | exact Or.inl rfl | exact Or.inr (Or.inl rfl) | exact Or.inr (Or.inr rfl)) (by decide) (by decide)) pe_int) (by rfl) (by first | exact .inl rfl | exact .inr rfl | assumption))))) (@pss_one _ _ _ (@ps_expr _ _ _ _ (@pe_bmK _ K _ _ _ _ _ _ _ _ _ _ _ PySem.F.plainAttrs_list PySem.F.slot_list_append PySem.F.type_list_append mt_append (@pv _ 6 _ _ (by rfl) (by first | exact Or.inl rfl | exact Or.inr (Or.inl rfl) | exact Or.inr (Or.inr rfl)) (by decide) (by decide)) (@pa_c _ _ _ _ _ (@pe_ix _ _ _ _ _ _ _ (ix_listK K) (@pv _ 5 _ _ (by rfl) (by first | exact Or.inl rfl | exact Or.inr (Or.inl rfl) | exact Or.inr (Or.inr rfl)) (by decide) (by decide)) (@pe_op _ _ _ _ _ _ _ _ op_mod (@pe_op _ _ _ _ _ _ _ _ op_fdiv (@pv _ 10 _ _ (by rfl) (by first | exact Or.inl rfl | exact Or.inr (Or.inl rfl) | exact Or.inr (Or.inr rfl)) (by decide) (by decide)) pe_int) (@pe_callB _ _ _ _ _ _ _ _ _ (call_len_seqK K) (by exact rfl) T.n_len PyProof.Rows.Boot.«len» (@pa_c _ _ _ _ _ (@pv _ 5 _ _ (by rfl) (by first | exact Or.inl rfl | exact Or.inr (Or.inl rfl) | exact Or.inr (Or.inr rfl)) (by decide) (by decide)) pa_nil (by rfl)) (by decide) (by decide) (by rfl) (by rfl))) (fun _ _ => rfl)) pa_nil (by rfl)) (by rfl) (by rfl) (by rfl) (by rfl) (by rfl) (by rfl)) (by rfl))))))) (by intro _; rfl)) (@pss_one _ _ _ (@ps_ret _ _ _ _ (@pv _ 6 _ _ (by rfl) (by first | exact Or.inl rfl | exact Or.inr (Or.inl rfl) | exact Or.inr (Or.inr rfl)) (by decide) (by decide)))))))), ?_⟩
    refine ⟨le_line (by simp), fun l hl => ?_⟩
    refine ⟨_, rfl, ?_⟩
    refine ⟨_, rfl, m, rfl, by omega, by omega, ?_⟩
    refine for_range (fun i σ H' => (∃ (r pl : Int) (u1 u2 : Option V), σ = [some (.ref a), some (.int c), some (.int p), some (.int m), some (.ref x), some (.ref b), some (.ref l), some (.int r), some (.int pl), u1, u2]) ∧ Same H H' ∧ ∃ ws : List Str, H' l = some (.lst (ws.map V.str)) ∧ ws.length = i ∧ ∀ w ∈ ws, w ∈ zs) ⟨⟨_, _, _, _, rfl⟩, Same.upd hl, [], upd_same, rfl, fun w hw => by cases hw⟩ ?_ ?_
    · rintro i σ H' hi ⟨⟨r, pl, u1, u2, rfl⟩, s1, ws, hl1, hw1, hw2⟩
      have hi : i < m.toNat := hi
      have hb1 := s1 _ _ hb
      have hx1 := s1 _ _ hx
      have el : (zs.map V.str).length = zs.length := List.length_map ..
      have elx : (ws0.map V.str).length = ws0.length := List.length_map ..
      have hlt : (ws.map V.str).length < sizeLine := lt_line (by rw [List.length_map]; omega)
      refine ⟨_, rfl, _, rfl, _, rfl, _, rfl, _, _, rfl, rfl, a, ns, _, rfl, s1.seq hS, by omega, _, _, rfl, rfl, ?_⟩
      refine ⟨_, rfl, _, rfl, b, _, rfl, .inl (.of hb1), _, _, rfl, rfl, .inl (by decide), _, _, rfl, rfl, ⟨by rw [el]; omega, by rw [el]; omega⟩, ?_⟩
      have fin : ∀ H3 (w : Str), Same H H3 → H3 l = some (.lst (ws.map V.str)) → w ∈ zs → Same H (upd H3 l (.lst (ws.map V.str ++ [.str w]))) ∧ ∃ ws2 : List Str, upd H3 l (.lst (ws.map V.str ++ [.str w])) l = some (.lst (ws2.map V.str)) ∧ ws2.length = i + 1 ∧ ∀ w ∈ ws2, w ∈ zs := fun H3 w s3 h3 hw => by
        refine ⟨s3.upd2 hl, ws ++ [w], by rw [upd_same]; simp, by simp [hw1], fun x hx => ?_⟩
        rcases List.mem_append.mp hx with hx | hx
        · exact hw2 x hx
        · have : x = w := by simpa using hx
          rw [this]; exact hw
      have other : ∀ H3, Same H H3 → H3 l = some (.lst (ws.map V.str)) → H3 b = some (.lst (zs.map V.str)) → ∃ w, w ∈ zs ∧ atI (zs.map V.str) ((r + cell ns (p + (0 + (i : Int)))) / 8 % ((zs.map V.str).length : Int)) = some (.str w) := fun H3 _ _ _ => by
        rw [el]
        exact str_at zs (Int.emod_nonneg _ (by omega)) (Int.emod_lt_of_pos _ (by omega))
      refine ⟨_, rfl, _, _, rfl, rfl, c8, _, _, rfl, rfl, _, rfl, ?_⟩
      refine ite2 (fun h1 => ?_) (fun h1 => ?_)
      · refine ⟨_, rfl, le_line (by simp), fun pn hpn => ⟨x, pn, _, rfl, rfl, .of (Same.upd hpn _ _ hx1), .of upd_same, _, rfl, ?_⟩⟩
        have s2 : Same H (upd H' pn (.lst [])) := s1.trans (Same.upd hpn)
        have hl2 := Same.upd (o := .lst []) hpn _ _ hl1
        refine ite2 (fun h2 => ?_) (fun h2 => ?_)
        · have hne : ws0 ≠ [] := by simpa using h2
          have hpos : 0 < ws0.length := List.length_pos_iff.mpr hne
          obtain ⟨w, hw, hat⟩ := str_at ws0 (i := (pl + (if decide ((r + cell ns (p + (0 + (i : Int)))) % 8 = 4) = true then 1 else 0)) % ((ws0.length : Nat) : Int)) (Int.emod_nonneg _ (by omega)) (Int.emod_lt_of_pos _ (by omega))
          obtain ⟨a1, a2⟩ := fin _ w s2 hl2 (hxz w hw)
          refine ⟨_, rfl, _, rfl, _, _, rfl, rfl, c8, rfl, .inr ⟨_, rfl, _, _, rfl, rfl, ?_⟩⟩
          refine ⟨_, rfl, .inl ⟨rfl, _, .of hl2⟩, _, rfl, _, rfl, _, rfl, x, _, rfl, .inl (.of (s2 _ _ hx)), _, _, rfl, rfl, (by rw [elx]; show (0 : Int) < _; omega), x, _, _, _, rfl, rfl, .of (s2 _ _ hx), by rw [elx]; simpa [beq_iff_eq, eqV] using hat, l, _, _, rfl, rfl, hl2, hlt, ?_⟩
          exact ⟨_, rfl, _, _, rfl, rfl, ⟨_, _, _, _, rfl⟩, a1, a2⟩
        · obtain ⟨w, hw, hat⟩ := other _ s2 hl2 (s2 _ _ hb)
          obtain ⟨a1, a2⟩ := fin _ w s2 hl2 hw
          refine ⟨_, rfl, .inl ⟨rfl, _, .of hl2⟩, _, rfl, _, rfl, _, _, rfl, rfl, ⟨by decide, by decide⟩, _, rfl, b, _, rfl, .inl (.of (s2 _ _ hb)), _, _, rfl, rfl, (by rw [el]; show (0 : Int) < _; omega), b, _, _, _, rfl, rfl, .of (s2 _ _ hb), hat, l, _, _, rfl, rfl, hl2, hlt, ⟨_, _, _, _, rfl⟩, a1, a2⟩
      · refine iteF ?_
        obtain ⟨w, hw, hat⟩ := other _ s1 hl1 hb1
        obtain ⟨a1, a2⟩ := fin _ w s1 hl1 hw
        refine ⟨_, rfl, .inl ⟨rfl, _, .of hl1⟩, _, rfl, _, rfl, _, _, rfl, rfl, ⟨by decide, by decide⟩, _, rfl, b, _, rfl, .inl (.of hb1), _, _, rfl, rfl, (by rw [el]; show (0 : Int) < _; omega), b, _, _, _, rfl, rfl, .of hb1, hat, l, _, _, rfl, rfl, hl1, hlt, ⟨_, _, _, _, rfl⟩, a1, a2⟩
    · rintro σ H' ⟨⟨r, pl, u1, u2, rfl⟩, s1, ws, hl1, hw1, hw2⟩
      exact ⟨_, rfl, q H' l ws s1 hl hl1 hw1 hw2⟩
theorem sc__law_numbers : FnScope ["_law_script", "_law_spot", "_law_pick", "_law_same", "_law_most"] ["_law_script", "_law_spot"] (defScope s__law_numbers) := ⟨rfl, rfl, rfl, by decide +kernel, rfl, by decide +kernel, by decide +kernel⟩
theorem ok__law_numbers {f : Addr} {fd : FuncData} (F : Fun K "_law_numbers" "_law_numbers" s__law_numbers f fd) (T : TB mg) (D__law_at : IsDef P w K mg base true 1 "_law_at" ["_law_script", "_law_k"] (sp_at K)) : FnOk P w K mg base (CXF P w) true 2 f fd ["_law_script", "_law_spot"] (sp_numbers K) := by
  refine F.okX sc__law_numbers (fun vs H Q E h => ?_) (fun cdv A outer s H vs Q E hr h hX => ?_)
  · obtain ⟨a, ns, k, rfl, _⟩ := h
    rfl
  · obtain ⟨a, ns, k, rfl, hS, h0, q⟩ := h
    have c2 : (0 : Int) < 2 := by decide
    have c4 : (0 : Int) < 4 := by decide
    have c6 : (0 : Int) < 6 := by decide
    have cM : (0 : Int) < 1000000 := by decide
    have cd4 : ∀ i : Int, CDiv i 4 := fun i => ⟨by decide, by decide⟩
    have cd8 : ∀ i : Int, CDiv i 8 := fun i => ⟨by decide, by decide⟩
    refine ⟨_, (@pss_cons _ _ _ _ _ (@ps_comp _ _ _ _ _ _ _ _ _ _ _ _ _ _ _ (2) _ _ (by exact rfl) sc__law_numbers.nd (by exact rfl) (by exact rfl) (show CompScope ["_law_script", "_law_spot", "_law_pick", "_law_same", "_law_most"] (defScope s__law_numbers) _ ["_law_k"] [0, 1] ["_law_script", "_law_spot"] from ⟨rfl, by decide +kernel, by decide +kernel, by decide +kernel, rfl, rfl, by decide +kernel, by decide +kernel, by decide +kernel⟩) (@pi_range1 _ _ _ _ _ _ (by exact rfl) T.n_range (@pa_c _ _ _ _ _ pe_int pa_nil (by rfl)) (by rfl)) (fun _ _ _ _ _ => (@pg_name _ _ (0) _ (show (["_law_k", "_law_script", "_law_spot"] : List Str).Nodup by decide +kernel) (by exact rfl) (Or.inl rfl) (by first | exact .inl rfl | exact .inr rfl | assumption))) (fun _ _ _ _ _ => pts_nil) (fun _ _ _ _ _ => (@pe_def _ _ _ _ _ _ _ _ _ _ _ _ D__law_at (hr.mono (by decide)) passF (@pa_c _ _ _ _ _ (@pv _ 1 _ _ (by rfl) (by first | exact Or.inl rfl | exact Or.inr (Or.inl rfl) | exact Or.inr (Or.inr rfl)) (by decide) (by decide)) (@pa_c _ _ _ _ _ (@pe_op _ _ _ _ _ _ _ _ op_add (@pv _ 2 _ _ (by rfl) (by first | exact Or.inl rfl | exact Or.inr (Or.inl rfl) | exact Or.inr (Or.inr rfl)) (by decide) (by decide)) (@pv _ 0 _ _ (by rfl) (by first | exact Or.inl rfl | exact Or.inr (Or.inl rfl) | exact Or.inr (Or.inr rfl)) (by decide) (by decide))) pa_nil (by rfl)) (by rfl)) (by rfl) (by decide) (by rfl) (by rfl))) (by rfl) (by intro _; rfl)) (@pss_cons _ _ _ _ _ (@ps_if _ _ _ _ _ _ _ _ (@pt_cmpR _ _ _ _ _ _ _ _ op_lt (@pe_op _ _ _ _ _ _ _ _ op_mod (@pe_ix _ _ _ _ _ _ _ (ix_listK K) (@pv _ 2 _ _ (by rfl) (by first | exact Or.inl rfl | exact Or.inr (Or.inl rfl) | exact Or.inr (Or.inr rfl)) (by decide) (by decide)) pe_int (fun _ _ => rfl)) pe_int) pe_int (nomark _)) (@pss_cons _ _ _ _ _ (@ps_set _ _ (3) _ _ _ _ sc__law_numbers.nd (by exact rfl) (Or.inl rfl) (@pe_op _ _ _ _ _ _ _ _ op_add pe_int (@pe_op _ _ _ _ _ _ _ _ op_mod (@pe_op _ _ _ _ _ _ _ _ op_fdiv (@pe_ix _ _ _ _ _ _ _ (ix_listK K) (@pv _ 2 _ _ (by rfl) (by first | exact Or.inl rfl | exact Or.inr (Or.inl rfl) | exact Or.inr (Or.inr rfl)) (by decide) (by decide)) pe_int (fun _ _ => rfl)) pe_int) pe_int)) (by rfl) (by first | exact .inl rfl | exact .inr rfl | assumption)) (@pss_one _ _ _ (@ps_ret _ _ _ _ (@pe_lst _ _ _ _ (@pa_c _ _ _ _ _ (@pv _ 3 _ _ (by rfl) (by first | exact Or.inl rfl | exact Or.inr (Or.inl rfl) | exact Or.inr (Or.inr rfl)) (by decide) (by decide)) (@pa_c _ _ _ _ _ (@pe_op _ _ _ _ _ _ _ _ op_mod (@pe_ix _ _ _ _ _ _ _ (ix_listK K) (@pv _ 2 _ _ (by rfl) (by first | exact Or.inl rfl | exact Or.inr (Or.inl rfl) | exact Or.inr (Or.inr rfl)) (by decide) (by decide)) pe_int (fun _ _ => rfl)) pe_int) (@pa_c _ _ _ _ _ (@pe_op _ _ _ _ _ _ _ _ op_mod (@pe_ix _ _ _ _ _ _ _ (ix_listK K) (@pv _ 2 _ _ (by rfl) (by first | exact Or.inl rfl | exact Or.inr (Or.inl rfl) | exact Or.inr (Or.inr rfl)) (by decide) (by decide)) pe_int (fun _ _ => rfl)) pe_int) (@pa_c _ _ _ _ _ (@pe_op _ _ _ _ _ _ _ _ op_add pe_int (@pe_op _ _ _ _ _ _ _ _ op_mod (@pe_ix _ _ _ _ _ _ _ (ix_listK K) (@pv _ 2 _ _ (by rfl) (by first | exact Or.inl rfl | exact Or.inr (Or.inl rfl) | exact Or.inr (Or.inr rfl)) (by decide) (by decide)) pe_int (fun _ _ => rfl)) (@pe_op _ _ _ _ _ _ _ _ op_mul pe_int (@pv _ 3 _ _ (by rfl) (by first | exact Or.inl rfl | exact Or.inr (Or.inl rfl) | exact Or.inr (Or.inr rfl)) (by decide) (by decide))))) pa_nil (by rfl)) (by rfl)) (by rfl)) (by rfl)))))) pss_nil) (@pss_cons _ _ _ _ _ (@ps_set _ _ (3) _ _ _ _ sc__law_numbers.nd (by exact rfl) (Or.inl rfl) (@pe_op _ _ _ _ _ _ _ _ op_add pe_int (@pe_op _ _ _ _ _ _ _ _ op_mod (@pe_op _ _ _ _ _ _ _ _ op_fdiv (@pe_ix _ _ _ _ _ _ _ (ix_listK K) (@pv _ 2 _ _ (by rfl) (by first | exact Or.inl rfl | exact Or.inr (Or.inl rfl) | exact Or.inr (Or.inr rfl)) (by decide) (by decide)) pe_int (fun _ _ => rfl)) pe_int) pe_int)) (by rfl) (by first | exact .inl rfl | exact .inr rfl | assumption)) (@pss_cons _ _ _ _ _ (@ps_set _ _ (4) _ _ _ _ sc__law_numbers.nd (by exact rfl) (Or.inl rfl) (@pe_ix _ _ _ _ _ _ _ (ix_listK K) (@pe_lst _ _ _ _ (@pa_c _ _ _ _ _ (@pe_callB _ _ _ _ _ _ _ _ _ (call_min2 rfl) (by exact rfl) T.n_min PyProof.Rows.Boot.«min» (@pa_c _ _ _ _ _ pe_int (@pa_c _ _ _ _ _ (@pe_op _ _ _ _ _ _ _ _ op_mul pe_int (@pv _ 3 _ _ (by rfl) (by first | exact Or.inl rfl | exact Or.inr (Or.inl rfl) | exact Or.inr (Or.inr rfl)) (by decide) (by decide))) pa_nil (by rfl)) (by rfl)) (by decide) (by decide) (by rfl) (by rfl)) (@pa_c _ _ _ _ _ pe_int pa_nil (by rfl)) (by rfl))) (@pe_op _ _ _ _ _ _ _ _ op_mod (@pe_op _ _ _ _ _ _ _ _ op_fdiv (@pe_ix _ _ _ _ _ _ _ (ix_listK K) (@pv _ 2 _ _ (by rfl) (by first | exact Or.inl rfl | exact Or.inr (Or.inl rfl) | exact Or.inr (Or.inr rfl)) (by decide) (by decide)) pe_int (fun _ _ => rfl)) pe_int) pe_int) (fun _ _ => rfl)) (by rfl) (by first | exact .inl rfl | exact .inr rfl | assumption)) (@pss_one _ _ _ (@ps_ret _ _ _ _ (@pe_lst _ _ _ _ (@pa_c _ _ _ _ _ (@pv _ 3 _ _ (by rfl) (by first | exact Or.inl rfl | exact Or.inr (Or.inl rfl) | exact Or.inr (Or.inr rfl)) (by decide) (by decide)) (@pa_c _ _ _ _ _ (@pe_op _ _ _ _ _ _ _ _ op_mod (@pe_ix _ _ _ _ _ _ _ (ix_listK K) (@pv _ 2 _ _ (by rfl) (by first | exact Or.inl rfl | exact Or.inr (Or.inl rfl) | exact Or.inr (Or.inr rfl)) (by decide) (by decide)) pe_int (fun _ _ => rfl)) pe_int) (@pa_c _ _ _ _ _ (@pe_op _ _ _ _ _ _ _ _ op_mod (@pe_ix _ _ _ _ _ _ _ (ix_listK K) (@pv _ 2 _ _ (by rfl) (by first | exact Or.inl rfl | exact Or.inr (Or.inl rfl) | exact Or.inr (Or.inr rfl)) (by decide) (by decide)) pe_int (fun _ _ => rfl)) pe_int) (@pa_c _ _ _ _ _ (@pe_op _ _ _ _ _ _ _ _ op_add pe_int (@pe_op _ _ _ _ _ _ _ _ op_mod (@pe_ix _ _ _ _ _ _ _ (ix_listK K) (@pv _ 2 _ _ (by rfl) (by first | exact Or.inl rfl | exact Or.inr (Or.inl rfl) | exact Or.inr (Or.inr rfl)) (by decide) (by decide)) pe_int (fun _ _ => rfl)) (@pv _ 4 _ _ (by rfl) (by first | exact Or.inl rfl | exact Or.inr (Or.inl rfl) | exact Or.inr (Or.inr rfl)) (by decide) (by decide)))) pa_nil (by rfl)) (by rfl)) (by rfl)) (by rfl))))))))), ?_⟩
    refine ⟨4, rfl, by decide, by decide, fun D hD => ?_⟩
    refine comp_range (fun i ys σ' H' => (∃ u, σ' = [u, some (.ref a), some (.int k)]) ∧ ∃ is : List Int, ys = is.map V.int ∧ is.length = i ∧ H' D = some (.lst ys) ∧ Same H H') ⟨⟨_, rfl⟩, [], rfl, rfl, upd_same, Same.upd hD⟩ ?_ ?_
    · rintro i ys σ' H' hi ⟨⟨u, rfl⟩, is, rfl, hl, hDl, s1⟩
      have hi : i < 4 := hi
      refine gN_yes ?_
      exact ⟨_, rfl, _, rfl, _, rfl, _, _, rfl, rfl, a, ns, _, rfl, s1.seq hS, by omega, hDl, lt_line (by rw [List.length_map]; omega), ⟨_, rfl⟩, is ++ [cell ns (k + (0 + (i : Int)))], by simp, by simp [hl], upd_same, s1.upd2 hD⟩
    · rintro ys σ' H1 ⟨_, is, rfl, hl, hD1, s1⟩
      obtain ⟨p0, p1, p2, p3, rfl⟩ := four_of hl
      refine ⟨_, rfl, D, _, 0, _, rfl, rfl, .of hD1, atI_nat (j := 0) rfl, _, _, rfl, rfl, c4, _, _, rfl, rfl, _, rfl, ?_⟩
      refine ite2 (fun _ => ?_) (fun _ => ?_)
      · refine ⟨_, rfl, D, _, 0, _, rfl, rfl, .of hD1, atI_nat (j := 0) rfl, _, _, rfl, rfl, cd4 _, _, _, rfl, rfl, c6, _, _, rfl, rfl, ?_⟩
        have z0 : 1 ≤ 1 + p0 / 4 % 6 ∧ 1 + p0 / 4 % 6 ≤ 6 := by omega
        have z3 : 0 ≤ p3 % (3 * (1 + p0 / 4 % 6)) := Int.emod_nonneg _ (by omega)
        have z4 : p3 % (3 * (1 + p0 / 4 % 6)) < 3 * (1 + p0 / 4 % 6) := Int.emod_lt_of_pos _ (by omega)
        exact ⟨_, rfl, _, rfl, D, _, 1, _, rfl, rfl, .of hD1, atI_nat (j := 1) rfl, _, _, rfl, rfl, c4, _, rfl, D, _, 2, _, rfl, rfl, .of hD1, atI_nat (j := 2) rfl, _, _, rfl, rfl, c4, _, rfl, D, _, 3, _, rfl, rfl, .of hD1, atI_nat (j := 3) rfl, _, rfl, _, _, rfl, rfl, .inl (by decide), _, _, rfl, rfl, (show (0 : Int) < 3 * (1 + p0 / 4 % 6) by omega), _, _, rfl, rfl, le_line (by simp), fun p hp => q _ p _ _ _ _ (s1.trans (Same.upd hp)) (s1.free hp) upd_same (by omega) (by omega) (by omega) (by omega)⟩
      · refine ⟨_, rfl, D, _, 0, _, rfl, rfl, .of hD1, atI_nat (j := 0) rfl, _, _, rfl, rfl, cd8 _, _, _, rfl, rfl, (show (0 : Int) < 999999 by decide), _, _, rfl, rfl, ?_⟩
        have z0 : 1 ≤ 1 + p0 / 8 % 999999 ∧ 1 + p0 / 8 % 999999 ≤ 999999 := by omega
        obtain ⟨m, hm1, hm⟩ := int_at [if 3 * (1 + p0 / 8 % 999999) < 999999 then 3 * (1 + p0 / 8 % 999999) else 999999, 999999] (i := p0 / 4 % 2) (by omega) (show p0 / 4 % 2 < 2 by omega)
        have hm2 : 1 ≤ m ∧ m ≤ 999999 := by
          simp only [List.mem_cons, List.not_mem_nil, or_false] at hm1
          rcases hm1 with rfl | rfl
          · split <;> omega
          · omega
        refine ⟨_, rfl, _, _, rfl, rfl, .inl (by decide), _, _, rfl, le_line (by simp), fun p hp => ?_⟩
        have hD2 := Same.upd (o := .lst [.int (if 3 * (1 + p0 / 8 % 999999) < 999999 then 3 * (1 + p0 / 8 % 999999) else 999999), .int 999999]) hp _ _ hD1
        refine ⟨_, rfl, D, _, 0, _, rfl, rfl, .of hD2, atI_nat (j := 0) rfl, _, _, rfl, rfl, cd4 _, _, _, rfl, rfl, c2, p, _, _, _, rfl, rfl, .of upd_same, hm, ?_⟩
        have z3 : 0 ≤ p3 % m := Int.emod_nonneg _ (by omega)
        have z4 : p3 % m < m := Int.emod_lt_of_pos _ (by omega)
        exact ⟨_, rfl, _, rfl, D, _, 1, _, rfl, rfl, .of hD2, atI_nat (j := 1) rfl, _, _, rfl, rfl, cM, _, rfl, D, _, 2, _, rfl, rfl, .of hD2, atI_nat (j := 2) rfl, _, _, rfl, rfl, cM, _, rfl, D, _, 3, _, rfl, rfl, .of hD2, atI_nat (j := 3) rfl, _, rfl, _, _, rfl, rfl, (show (0 : Int) < m by omega), _, _, rfl, rfl, le_line (by simp), fun p2 hp2 => q _ p2 _ _ _ _ ((s1.trans (Same.upd hp)).trans (Same.upd hp2)) ((s1.trans (Same.upd hp)).free hp2) upd_same (by omega) (by omega) (by omega) (by omega)⟩
theorem sc__law_near : FnScope ["_law_cell", "_law_bank_here", "_law_same", "_law_found", "_law_rest", "_law_x", "_law_y", "_law_price"] ["_law_cell", "_law_bank_here", "_law_same"] (defScope s__law_near) := ⟨rfl, rfl, rfl, by decide +kernel, rfl, by decide +kernel, by decide +kernel⟩
theorem ok__law_near {f : Addr} {fd : FuncData} (F : Fun K "_law_near" "_law_near" s__law_near f fd) (T : TB mg) : FnOk P w K mg base (CXF P w) true 1 f fd ["_law_cell", "_law_bank_here", "_law_same"] sp_near := by
  refine F.okX sc__law_near (fun vs H Q E h => ?_) (fun cdv A outer s H vs Q E hr h hX => ?_)
  · obtain ⟨cell, same, b, zs, rfl, _⟩ := h
    rfl
  · obtain ⟨cell, same, b, zs, rfl, hb, hz8, hw, hn, hs1, hs2, q⟩ := h
    have hs3 : (0 : Int) < same + 3 := by omega
    refine ⟨_, (@pss_cons _ _ _ _ _ (@ps_set _ _ (3) _ _ _ _ sc__law_near.nd (by exact rfl) (Or.inl rfl) (@pe_lst _ _ _ _ pa_nil) (by rfl) (by first | exact .inl rfl | exact .inr rfl | assumption)) (@pss_cons _ _ _ _ _ (@ps_set _ _ (4) _ _ _ _ sc__law_near.nd (by exact rfl) (Or.inl rfl) (@pv _ 0 _ _ (by rfl) (by first | exact Or.inl rfl | exact Or.inr (Or.inl rfl) | exact Or.inr (Or.inr rfl)) (by decide) (by decide)) (by rfl) (by first | exact .inl rfl | exact .inr rfl | assumption)) (@pss_cons _ _ _ _ _ (@ps_for _ _ _ _ _ _ _ _ hX.own (by exact rfl) (@pi_listK _ K _ _ _ (@pv _ 1 _ _ (by rfl) (by first | exact Or.inl rfl | exact Or.inr (Or.inl rfl) | exact Or.inr (Or.inr rfl)) (by decide) (by decide)) (by rfl)) (@pg_name _ _ (5) _ sc__law_near.nd (by exact rfl) (Or.inl rfl) (by first | exact .inl rfl | exact .inr rfl | assumption)) (@pss_one _ _ _ (@ps_for _ _ _ _ _ _ _ _ hX.own (by exact rfl) (@pi_listK _ K _ _ _ (@pv _ 1 _ _ (by rfl) (by first | exact Or.inl rfl | exact Or.inr (Or.inl rfl) | exact Or.inr (Or.inr rfl)) (by decide) (by decide)) (by rfl)) (@pg_name _ _ (6) _ sc__law_near.nd (by exact rfl) (Or.inl rfl) (by first | exact .inl rfl | exact .inr rfl | assumption)) (@pss_one _ _ _ (@ps_if _ _ _ _ _ _ _ _ (@pt_cmpR _ _ _ _ _ _ _ _ op_ne (@pv _ 5 _ _ (by rfl) (by first | exact Or.inl rfl | exact Or.inr (Or.inl rfl) | exact Or.inr (Or.inr rfl)) (by decide) (by decide)) (@pv _ 6 _ _ (by rfl) (by first | exact Or.inl rfl | exact Or.inr (Or.inl rfl) | exact Or.inr (Or.inr rfl)) (by decide) (by decide)) (nomark _)) (@pss_cons _ _ _ _ _ (@ps_set _ _ (7) _ _ _ _ sc__law_near.nd (by exact rfl) (Or.inl rfl) (@pe_op _ _ _ _ _ _ _ _ op_mod (@pe_op _ _ _ _ _ _ _ _ op_fdiv (@pv _ 4 _ _ (by rfl) (by first | exact Or.inl rfl | exact Or.inr (Or.inl rfl) | exact Or.inr (Or.inr rfl)) (by decide) (by decide)) pe_int) (@pe_op _ _ _ _ _ _ _ _ op_add (@pv _ 2 _ _ (by rfl) (by first | exact Or.inl rfl | exact Or.inr (Or.inl rfl) | exact Or.inr (Or.inr rfl)) (by decide) (by decide)) pe_int)) (by rfl) (by first | exact .inl rfl | exact .inr rfl | assumption)) (@pss_cut _ _ _ _ _ (@ps_if _ _ _ _ _ _ _ _ (@pt_cmpR _ _ _ _ _ _ _ _ op_eq (@pe_op _ _ _ _ _ _ _ _ op_mod (@pv _ 4 _ _ (by rfl) (by first | exact Or.inl rfl | exact Or.inr (Or.inl rfl) | exact Or.inr (Or.inr rfl)) (by decide) (by decide)) pe_int) pe_int (nomark _)) (@pss_cons _ _ _ _ _ (@ps_expr _ _ _ _ (@pe_bmK _ K _ _ _ _ _ _ _ _ _ _ _ PySem.F.plainAttrs_list PySem.F.slot_list_append PySem.F.type_list_append mt_append (@pv _ 3 _ _ (by rfl) (by first | exact Or.inl rfl | exact Or.inr (Or.inl rfl) | exact Or.inr (Or.inr rfl)) (by decide) (by decide)) (@pa_c _ _ _ _ _ (@pe_tup _ _ _ _ _ (@pa_c _ _ _ _ _ (@pv _ 5 _ _ (by rfl) (by first | exact Or.inl rfl | exact Or.inr (Or.inl rfl) | exact Or.inr (Or.inr rfl)) (by decide) (by decide)) (@pa_c _ _ _ _ _ (@pv _ 6 _ _ (by rfl) (by first | exact Or.inl rfl | exact Or.inr (Or.inl rfl) | exact Or.inr (Or.inr rfl)) (by decide) (by decide)) (@pa_c _ _ _ _ _ (@pe_callB _ _ _ _ _ _ _ _ _ (call_min2 rfl) (by exact rfl) T.n_min PyProof.Rows.Boot.«min» (@pa_c _ _ _ _ _ (@pv _ 7 _ _ (by rfl) (by first | exact Or.inl rfl | exact Or.inr (Or.inl rfl) | exact Or.inr (Or.inr rfl)) (by decide) (by decide)) (@pa_c _ _ _ _ _ pe_int pa_nil (by rfl)) (by rfl)) (by decide) (by decide) (by rfl) (by rfl)) pa_nil (by rfl)) (by rfl)) (by rfl))) pa_nil (by rfl)) (by rfl) (by rfl) (by rfl) (by rfl) (by rfl) (by rfl)) (by rfl)) (@pss_one _ _ _ (@ps_set _ _ (4) _ _ _ _ sc__law_near.nd (by exact rfl) (Or.inl rfl) (@pe_op _ _ _ _ _ _ _ _ op_fdiv (@pv _ 4 _ _ (by rfl) (by first | exact Or.inl rfl | exact Or.inr (Or.inl rfl) | exact Or.inr (Or.inr rfl)) (by decide) (by decide)) (@pe_op _ _ _ _ _ _ _ _ op_add (@pv _ 2 _ _ (by rfl) (by first | exact Or.inl rfl | exact Or.inr (Or.inl rfl) | exact Or.inr (Or.inr rfl)) (by decide) (by decide)) pe_int)) (by rfl) (by first | exact .inl rfl | exact .inr rfl | assumption)))) (@pss_one _ _ _ (@ps_if _ _ _ _ _ _ _ _ (@pt_cmpR _ _ _ _ _ _ _ _ op_eq (@pe_op _ _ _ _ _ _ _ _ op_mod (@pv _ 4 _ _ (by rfl) (by first | exact Or.inl rfl | exact Or.inr (Or.inl rfl) | exact Or.inr (Or.inr rfl)) (by decide) (by decide)) pe_int) pe_int (nomark _)) (@pss_one _ _ _ (@ps_expr _ _ _ _ (@pe_bmK _ K _ _ _ _ _ _ _ _ _ _ _ PySem.F.plainAttrs_list PySem.F.slot_list_append PySem.F.type_list_append mt_append (@pv _ 3 _ _ (by rfl) (by first | exact Or.inl rfl | exact Or.inr (Or.inl rfl) | exact Or.inr (Or.inr rfl)) (by decide) (by decide)) (@pa_c _ _ _ _ _ (@pe_tup _ _ _ _ _ (@pa_c _ _ _ _ _ (@pv _ 5 _ _ (by rfl) (by first | exact Or.inl rfl | exact Or.inr (Or.inl rfl) | exact Or.inr (Or.inr rfl)) (by decide) (by decide)) (@pa_c _ _ _ _ _ (@pv _ 6 _ _ (by rfl) (by first | exact Or.inl rfl | exact Or.inr (Or.inl rfl) | exact Or.inr (Or.inr rfl)) (by decide) (by decide)) (@pa_c _ _ _ _ _ pe_int pa_nil (by rfl)) (by rfl)) (by rfl))) pa_nil (by rfl)) (by rfl) (by rfl) (by rfl) (by rfl) (by rfl) (by rfl)) (by rfl))) pss_nil))) (@pss_one _ _ _ (@ps_set _ _ (4) _ _ _ _ sc__law_near.nd (by exact rfl) (Or.inl rfl) (@pe_op _ _ _ _ _ _ _ _ op_fdiv (@pv _ 4 _ _ (by rfl) (by first | exact Or.inl rfl | exact Or.inr (Or.inl rfl) | exact Or.inr (Or.inr rfl)) (by decide) (by decide)) pe_int) (by rfl) (by first | exact .inl rfl | exact .inr rfl | assumption))))) pss_nil)) (by intro _; rfl))) (by intro _; rfl)) (@pss_one _ _ _ (@ps_ret _ _ _ _ (@pv _ 3 _ _ (by rfl) (by first | exact Or.inl rfl | exact Or.inr (Or.inl rfl) | exact Or.inr (Or.inr rfl)) (by decide) (by decide))))))), ?_⟩
    refine ⟨le_line (by simp), fun l hl => ?_⟩
    refine ⟨_, rfl, ?_⟩
    have hlb : b ≠ l := ne_of_none hb hl
    refine ⟨_, rfl, b, rfl, ⟨_, .of (Same.upd hl _ _ hb)⟩, ?_⟩
    refine for_list (xs := zs.map V.str) (fun i σ H' => (∃ (rest : Int) (u1 u2 u3 : Option V), σ = [some (.int cell), some (.ref b), some (.int same), some (.ref l), some (.int rest), u1, u2, u3]) ∧ Same H H' ∧ ∃ xs fs, H' l = some (.lst xs) ∧ Trips H' xs fs ∧ PairInv zs i 0 fs) ⟨⟨_, _, _, _, rfl⟩, Same.upd hl, [], [], upd_same, .nil, .nil⟩ ?_ ?_ ?_
    · rintro i σ H' _ ⟨_, s1, _⟩
      exact .of (s1 _ _ hb)
    · rintro i v σ H' hv ⟨⟨rest, u1, u2, u3, rfl⟩, s1, xs, fs, hl1, T1, P1⟩
      obtain ⟨x, hx, rfl⟩ : ∃ x, zs[i]? = some x ∧ v = .str x := word_at hv
      have hi : i < zs.length := (List.getElem?_eq_some_iff.mp hx).1
      refine ⟨_, rfl, b, rfl, ⟨_, .of (s1 _ _ hb)⟩, ?_⟩
      refine for_list (xs := zs.map V.str) (fun j σ H' => (∃ (rest : Int) (u2 u3 : Option V), σ = [some (.int cell), some (.ref b), some (.int same), some (.ref l), some (.int rest), some (.str x), u2, u3]) ∧ Same H H' ∧ ∃ xs fs, H' l = some (.lst xs) ∧ Trips H' xs fs ∧ PairInv zs i j fs) ⟨⟨_, _, _, rfl⟩, s1, xs, fs, hl1, T1, P1⟩ ?_ ?_ ?_
      · rintro j σ H' _ ⟨_, s1, _⟩
        exact .of (s1 _ _ hb)
      · clear s1 hl1 T1 P1 xs fs u1 u2 u3 rest H'
        rintro j v σ H' hv ⟨⟨rest, u2, u3, rfl⟩, s1, xs, fs, hl1, T1, P1⟩
        obtain ⟨y, hy, rfl⟩ : ∃ y, zs[j]? = some y ∧ v = .str y := word_at hv
        have hfew : xs.length < 1000 := by
          have h1 := P1.few
          have h2 : i * (zs.length - 1) ≤ 8 * 7 := Nat.mul_le_mul (by omega) (by omega)
          have h3 : j < zs.length := (List.getElem?_eq_some_iff.mp hy).1
          have h4 := T1.1
          omega
        refine ⟨_, rfl, _, rfl, rfl, _, rfl, ?_⟩
        refine ite2 (fun h => ?_) (fun h => ?_)
        rotate_left
        · exact ⟨⟨_, _, _, rfl⟩, s1, xs, fs, hl1, T1, P1.skip⟩
        have hne : ¬ x = y := by simpa using h
        refine ⟨_, rfl, _, _, rfl, rfl, ⟨by decide, by decide⟩, _, rfl, _, _, rfl, rfl, _, _, rfl, rfl, hs3, ?_⟩
        have p0 : 0 ≤ rest / 3 % (same + 3) := Int.emod_nonneg _ (by omega)
        have add : ∀ (t : Addr) (ht : H' t = none) (pr : Int), 0 ≤ pr → pr ≤ 999999 → Same H (upd (upd H' t (.tup [.str x, .str y, .int pr])) l (.lst (xs ++ [.ref t]))) ∧ ∃ xs2 fs2, upd (upd H' t (.tup [.str x, .str y, .int pr])) l (.lst (xs ++ [.ref t])) l = some (.lst xs2) ∧ Trips (upd (upd H' t (.tup [.str x, .str y, .int pr])) l (.lst (xs ++ [.ref t]))) xs2 fs2 ∧ PairInv zs i (j + 1) fs2 := fun t ht pr h0 h1 => by
          refine ⟨(s1.trans (Same.upd ht)).upd2 hl, _, fs ++ [(x, y, pr)], upd_same, ?_, P1.add hn hw hx hy hne h0 h1⟩
          have T2 : Trips (upd H' t (.tup (trip (x, y, pr)))) (xs ++ [.ref t]) (fs ++ [(x, y, pr)]) := (T1.same (Same.upd ht)).snoc upd_same
          exact T2.tups (Tups.lst (Same.upd ht _ _ hl1))
        refine ⟨fun σ H2 => (∃ (rest : Int) (u3 : Option V), σ = [some (.int cell), some (.ref b), some (.int same), some (.ref l), some (.int rest), some (.str x), some (.str y), u3]) ∧ Same H H2 ∧ ∃ xs fs, H2 l = some (.lst xs) ∧ Trips H2 xs fs ∧ PairInv zs i (j + 1) fs, ?_, ?_⟩
        · refine ⟨_, rfl, _, _, rfl, rfl, (show (0 : Int) < 3 by decide), rfl, _, rfl, ?_⟩
          refine ite2 (fun _ => ?_) (fun _ => ?_)
          · refine ⟨_, rfl, .inl ⟨rfl, _, .of hl1⟩, _, rfl, _, rfl, _, rfl, _, _, rfl, le_line (by simp), fun t ht => ⟨l, xs, _, rfl, rfl, Same.upd ht _ _ hl1, lt_line (by omega), ?_⟩⟩
            obtain ⟨a1, a2⟩ := add t ht (if 999999 < rest / 3 % (same + 3) then 999999 else rest / 3 % (same + 3)) (by split <;> omega) (by split <;> omega)
            exact ⟨_, rfl, _, rfl, _, _, rfl, rfl, _, _, rfl, rfl, ⟨hs3, by omega⟩, ⟨_, _, rfl⟩, a1, a2⟩
          · refine ⟨_, rfl, _, _, rfl, rfl, (show (0 : Int) < 9 by decide), rfl, _, rfl, ?_⟩
            refine ite2 (fun _ => ?_) (fun _ => ?_)
            · refine ⟨_, rfl, .inl ⟨rfl, _, .of hl1⟩, _, rfl, _, rfl, le_line (by simp), fun t ht => ⟨l, xs, _, rfl, rfl, Same.upd ht _ _ hl1, lt_line (by omega), ?_⟩⟩
              obtain ⟨a1, a2⟩ := add t ht 999999 (by decide) (by decide)
              exact ⟨⟨_, _, rfl⟩, a1, a2⟩
            · exact ⟨⟨_, _, rfl⟩, s1, xs, fs, hl1, T1, P1.skip⟩
        rintro σ H2 ⟨⟨rest2, u4, rfl⟩, s2, xs2, fs2, hl2, T2, P2⟩
        exact ⟨_, rfl, _, _, rfl, rfl, ⟨by decide, by decide⟩, ⟨_, _, _, rfl⟩, s2, xs2, fs2, hl2, T2, P2⟩
      · rintro σ H2 ⟨⟨rest2, u4, u5, rfl⟩, s2, xs2, fs2, hl2, T2, P2⟩
        rw [List.length_map] at P2
        exact ⟨⟨_, _, _, _, rfl⟩, s2, xs2, fs2, hl2, T2, P2.row hi⟩
    · rintro σ H2 ⟨⟨rest2, u4, u5, u6, rfl⟩, s2, xs2, fs2, hl2, T2, P2⟩
      rw [List.length_map] at P2
      exact ⟨_, rfl, q H2 l xs2 fs2 s2 hl hl2 T2 (P2.good hz8)⟩
theorem sc__law_case : FnScope ["_law_script", "_law_most", "_law_many", "_law_bank_here", "_law_one", "_law_other", "_law_first", "_law_second", "_law_numbers_here"] ["_law_script", "_law_most"] (defScope s__law_case) := ⟨rfl, rfl, rfl, by decide +kernel, rfl, by decide +kernel, by decide +kernel⟩
theorem ok__law_case {f : Addr} {fd : FuncData} (F : Fun K "_law_case" "_law_case" s__law_case f fd) (T : TB mg) (D__law_at : IsDef P w K mg base true 1 "_law_at" ["_law_script", "_law_k"] (sp_at K)) (D__law_bank : IsDef P w K mg base true 1 "_law_bank" ["_law_cell", "_law_other", "_law_many"] sp_bank) (D__law_book : IsDef P w K mg base true 2 "_law_book" ["_law_script", "_law_cell", "_law_spot", "_law_many", "_law_bank_here"] (sp_book K)) (D__law_quote : IsDef P w K mg base true 2 "_law_quote" ["_law_script", "_law_cell", "_law_spot", "_law_many", "_law_first", "_law_bank_here"] (sp_quote K)) (D__law_numbers : IsDef P w K mg base true 2 "_law_numbers" ["_law_script", "_law_spot"] (sp_numbers K)) (D__law_near : IsDef P w K mg base true 1 "_law_near" ["_law_cell", "_law_bank_here", "_law_same"] sp_near) : FnOk P w K mg base (CXF P w) true 3 f fd ["_law_script", "_law_most"] (sp_case K) := by
  refine F.okX sc__law_case (fun vs H Q E h => ?_) (fun cdv A outer s H vs Q E hr h hX => ?_)
  · obtain ⟨a, ns, most, rfl, _⟩ := h
    rfl
  · obtain ⟨a, ns, most, rfl, hS, hm0, hm1, q⟩ := h
    refine ⟨_, (@pss_cut _ _ _ _ _ (@ps_set _ _ (2) _ _ _ _ sc__law_case.nd (by exact rfl) (Or.inl rfl) (@pe_op _ _ _ _ _ _ _ _ op_add (@pe_op _ _ _ _ _ _ _ _ op_add pe_int (@pe_op _ _ _ _ _ _ _ _ op_mod (@pe_def _ _ _ _ _ _ _ _ _ _ _ _ D__law_at (hr.mono (by decide)) passF (@pa_c _ _ _ _ _ (@pv _ 0 _ _ (by rfl) (by first | exact Or.inl rfl | exact Or.inr (Or.inl rfl) | exact Or.inr (Or.inr rfl)) (by decide) (by decide)) (@pa_c _ _ _ _ _ pe_int pa_nil (by rfl)) (by rfl)) (by rfl) (by decide) (by rfl) (by rfl)) pe_int)) (@pe_op _ _ _ _ _ _ _ _ op_mul (@pe_callTy _ _ _ _ _ _ _ _ _ call_int1 (by exact rfl) T.n_int PyProof.Rows.Boot.«int» (@pa_c _ _ _ _ _ (@pe_cmpR _ _ _ _ _ _ _ _ op_gt (@pv _ 1 _ _ (by rfl) (by first | exact Or.inl rfl | exact Or.inr (Or.inl rfl) | exact Or.inr (Or.inr rfl)) (by decide) (by decide)) pe_int (nomark _)) pa_nil (by rfl)) (by decide) (by decide) (by rfl) (by rfl)) pe_int)) (by rfl) (by first | exact .inl rfl | exact .inr rfl | assumption)) (@pss_cut _ _ _ _ _ (@ps_set _ _ (3) _ _ _ _ sc__law_case.nd (by exact rfl) (Or.inl rfl) (@pe_def _ _ _ _ _ _ _ _ _ _ _ _ D__law_bank (hr.mono (by decide)) passF (@pa_c _ _ _ _ _ (@pe_def _ _ _ _ _ _ _ _ _ _ _ _ D__law_at (hr.mono (by decide)) passF (@pa_c _ _ _ _ _ (@pv _ 0 _ _ (by rfl) (by first | exact Or.inl rfl | exact Or.inr (Or.inl rfl) | exact Or.inr (Or.inr rfl)) (by decide) (by decide)) (@pa_c _ _ _ _ _ pe_int pa_nil (by rfl)) (by rfl)) (by rfl) (by decide) (by rfl) (by rfl)) (@pa_c _ _ _ _ _ (@pe_def _ _ _ _ _ _ _ _ _ _ _ _ D__law_at (hr.mono (by decide)) passF (@pa_c _ _ _ _ _ (@pv _ 0 _ _ (by rfl) (by first | exact Or.inl rfl | exact Or.inr (Or.inl rfl) | exact Or.inr (Or.inr rfl)) (by decide) (by decide)) (@pa_c _ _ _ _ _ pe_int pa_nil (by rfl)) (by rfl)) (by rfl) (by decide) (by rfl) (by rfl)) (@pa_c _ _ _ _ _ (@pv _ 2 _ _ (by rfl) (by first | exact Or.inl rfl | exact Or.inr (Or.inl rfl) | exact Or.inr (Or.inr rfl)) (by decide) (by decide)) pa_nil (by rfl)) (by rfl)) (by rfl)) (by rfl) (by decide) (by rfl) (by rfl)) (by rfl) (by first | exact .inl rfl | exact .inr rfl | assumption)) (@pss_cut _ _ _ _ _ (@ps_set _ _ (4) _ _ _ _ sc__law_case.nd (by exact rfl) (Or.inl rfl) (@pe_op _ _ _ _ _ _ _ _ op_sub (@pv _ 1 _ _ (by rfl) (by first | exact Or.inl rfl | exact Or.inr (Or.inl rfl) | exact Or.inr (Or.inr rfl)) (by decide) (by decide)) (@pe_op _ _ _ _ _ _ _ _ op_mod (@pe_def _ _ _ _ _ _ _ _ _ _ _ _ D__law_at (hr.mono (by decide)) passF (@pa_c _ _ _ _ _ (@pv _ 0 _ _ (by rfl) (by first | exact Or.inl rfl | exact Or.inr (Or.inl rfl) | exact Or.inr (Or.inr rfl)) (by decide) (by decide)) (@pa_c _ _ _ _ _ pe_int pa_nil (by rfl)) (by rfl)) (by rfl) (by decide) (by rfl) (by rfl)) (@pe_op _ _ _ _ _ _ _ _ op_add (@pv _ 1 _ _ (by rfl) (by first | exact Or.inl rfl | exact Or.inr (Or.inl rfl) | exact Or.inr (Or.inr rfl)) (by decide) (by decide)) pe_int))) (by rfl) (by first | exact .inl rfl | exact .inr rfl | assumption)) (@pss_cut _ _ _ _ _ (@ps_set _ _ (5) _ _ _ _ sc__law_case.nd (by exact rfl) (Or.inl rfl) (@pe_op _ _ _ _ _ _ _ _ op_sub (@pv _ 1 _ _ (by rfl) (by first | exact Or.inl rfl | exact Or.inr (Or.inl rfl) | exact Or.inr (Or.inr rfl)) (by decide) (by decide)) (@pe_op _ _ _ _ _ _ _ _ op_mod (@pe_def _ _ _ _ _ _ _ _ _ _ _ _ D__law_at (hr.mono (by decide)) passF (@pa_c _ _ _ _ _ (@pv _ 0 _ _ (by rfl) (by first | exact Or.inl rfl | exact Or.inr (Or.inl rfl) | exact Or.inr (Or.inr rfl)) (by decide) (by decide)) (@pa_c _ _ _ _ _ pe_int pa_nil (by rfl)) (by rfl)) (by rfl) (by decide) (by rfl) (by rfl)) (@pe_op _ _ _ _ _ _ _ _ op_add (@pv _ 1 _ _ (by rfl) (by first | exact Or.inl rfl | exact Or.inr (Or.inl rfl) | exact Or.inr (Or.inr rfl)) (by decide) (by decide)) pe_int))) (by rfl) (by first | exact .inl rfl | exact .inr rfl | assumption)) (@pss_cut _ _ _ _ _ (@ps_set _ _ (6) _ _ _ _ sc__law_case.nd (by exact rfl) (Or.inl rfl) (@pe_def _ _ _ _ _ _ _ _ _ _ _ _ D__law_book (hr.mono (by decide)) passF (@pa_c _ _ _ _ _ (@pv _ 0 _ _ (by rfl) (by first | exact Or.inl rfl | exact Or.inr (Or.inl rfl) | exact Or.inr (Or.inr rfl)) (by decide) (by decide)) (@pa_c _ _ _ _ _ (@pe_def _ _ _ _ _ _ _ _ _ _ _ _ D__law_at (hr.mono (by decide)) passF (@pa_c _ _ _ _ _ (@pv _ 0 _ _ (by rfl) (by first | exact Or.inl rfl | exact Or.inr (Or.inl rfl) | exact Or.inr (Or.inr rfl)) (by decide) (by decide)) (@pa_c _ _ _ _ _ pe_int pa_nil (by rfl)) (by rfl)) (by rfl) (by decide) (by rfl) (by rfl)) (@pa_c _ _ _ _ _ pe_int (@pa_c _ _ _ _ _ (@pv _ 4 _ _ (by rfl) (by first | exact Or.inl rfl | exact Or.inr (Or.inl rfl) | exact Or.inr (Or.inr rfl)) (by decide) (by decide)) (@pa_c _ _ _ _ _ (@pv _ 3 _ _ (by rfl) (by first | exact Or.inl rfl | exact Or.inr (Or.inl rfl) | exact Or.inr (Or.inr rfl)) (by decide) (by decide)) pa_nil (by rfl)) (by rfl)) (by rfl)) (by rfl)) (by rfl)) (by rfl) (by decide) (by rfl) (by rfl)) (by rfl) (by first | exact .inl rfl | exact .inr rfl | assumption)) (@pss_cut _ _ _ _ _ (@ps_set _ _ (7) _ _ _ _ sc__law_case.nd (by exact rfl) (Or.inl rfl) (@pe_def _ _ _ _ _ _ _ _ _ _ _ _ D__law_quote (hr.mono (by decide)) passF (@pa_c _ _ _ _ _ (@pv _ 0 _ _ (by rfl) (by first | exact Or.inl rfl | exact Or.inr (Or.inl rfl) | exact Or.inr (Or.inr rfl)) (by decide) (by decide)) (@pa_c _ _ _ _ _ (@pe_def _ _ _ _ _ _ _ _ _ _ _ _ D__law_at (hr.mono (by decide)) passF (@pa_c _ _ _ _ _ (@pv _ 0 _ _ (by rfl) (by first | exact Or.inl rfl | exact Or.inr (Or.inl rfl) | exact Or.inr (Or.inr rfl)) (by decide) (by decide)) (@pa_c _ _ _ _ _ pe_int pa_nil (by rfl)) (by rfl)) (by rfl) (by decide) (by rfl) (by rfl)) (@pa_c _ _ _ _ _ pe_int (@pa_c _ _ _ _ _ (@pv _ 5 _ _ (by rfl) (by first | exact Or.inl rfl | exact Or.inr (Or.inl rfl) | exact Or.inr (Or.inr rfl)) (by decide) (by decide)) (@pa_c _ _ _ _ _ (@pv _ 6 _ _ (by rfl) (by first | exact Or.inl rfl | exact Or.inr (Or.inl rfl) | exact Or.inr (Or.inr rfl)) (by decide) (by decide)) (@pa_c _ _ _ _ _ (@pv _ 3 _ _ (by rfl) (by first | exact Or.inl rfl | exact Or.inr (Or.inl rfl) | exact Or.inr (Or.inr rfl)) (by decide) (by decide)) pa_nil (by rfl)) (by rfl)) (by rfl)) (by rfl)) (by rfl)) (by rfl)) (by rfl) (by decide) (by rfl) (by rfl)) (by rfl) (by first | exact .inl rfl | exact .inr rfl | assumption)) (@pss_cut _ _ _ _ _ (@ps_set _ _ (8) _ _ _ _ sc__law_case.nd (by exact rfl) (Or.inl rfl) (@pe_def _ _ _ _ _ _ _ _ _ _ _ _ D__law_numbers (hr.mono (by decide)) passF (@pa_c _ _ _ _ _ (@pv _ 0 _ _ (by rfl) (by first | exact Or.inl rfl | exact Or.inr (Or.inl rfl) | exact Or.inr (Or.inr rfl)) (by decide) (by decide)) (@pa_c _ _ _ _ _ pe_int pa_nil (by rfl)) (by rfl)) (by rfl) (by decide) (by rfl) (by rfl)) (by rfl) (by first | exact .inl rfl | exact .inr rfl | assumption)) (@pss_one _ _ _ (@ps_ret _ _ _ _ (@pe_lst _ _ _ _ (@pa_c _ _ _ _ _ (@pv _ 6 _ _ (by rfl) (by first | exact Or.inl rfl | exact Or.inr (Or.inl rfl) | exact Or.inr (Or.inr rfl)) (by decide) (by decide)) (@pa_c _ _ _ _ _ (@pv _ 7 _ _ (by rfl) (by first | exact Or.inl rfl | exact Or.inr (Or.inl rfl) | exact Or.inr (Or.inr rfl)) (by decide) (by decide)) (@pa_c _ _ _ _ _ (@pv _ 8 _ _ (by rfl) (by first | exact Or.inl rfl | exact Or.inr (Or.inl rfl) | exact Or.inr (Or.inr rfl)) (by decide) (by decide)) (@pa_c _ _ _ _ _ (@pe_def _ _ _ _ _ _ _ _ _ _ _ _ D__law_near (hr.mono (by decide)) passF (@pa_c _ _ _ _ _ (@pe_def _ _ _ _ _ _ _ _ _ _ _ _ D__law_at (hr.mono (by decide)) passF (@pa_c _ _ _ _ _ (@pv _ 0 _ _ (by rfl) (by first | exact Or.inl rfl | exact Or.inr (Or.inl rfl) | exact Or.inr (Or.inr rfl)) (by decide) (by decide)) (@pa_c _ _ _ _ _ pe_int pa_nil (by rfl)) (by rfl)) (by rfl) (by decide) (by rfl) (by rfl)) (@pa_c _ _ _ _ _ (@pe_slice _ _ _ _ _ _ _ _ _ _ (sl_listK K) (@pv _ 3 _ _ (by rfl) (by first | exact Or.inl rfl | exact Or.inr (Or.inl rfl) | exact Or.inr (Or.inr rfl)) (by decide) (by decide)) po_none (@po_some _ _ _ pe_int)) (@pa_c _ _ _ _ _ (@pe_ix _ _ _ _ _ _ _ (ix_listK K) (@pv _ 8 _ _ (by rfl) (by first | exact Or.inl rfl | exact Or.inr (Or.inl rfl) | exact Or.inr (Or.inr rfl)) (by decide) (by decide)) pe_int (fun _ _ => rfl)) pa_nil (by rfl)) (by rfl)) (by rfl)) (by rfl) (by decide) (by rfl) (by rfl)) pa_nil (by rfl)) (by rfl)) (by rfl)) (by rfl)))))))))))), ?_⟩
    refine ⟨fun σ H1 => ∃ many : Int, σ = [some (.ref a), some (.int most), some (.int many), none, none, none, none, none, none] ∧ H1 = H ∧ 1 ≤ many ∧ many ≤ 12, ?_, ?_⟩
    · refine ⟨_, rfl, a, ns, 2, rfl, hS, by decide, _, _, rfl, rfl, (show (0 : Int) < 5 by decide), _, _, rfl, rfl, _, rfl, _, _, rfl, rfl, .inr ⟨_, rfl, _, _, rfl, rfl, .inr ⟨by decide, by decide⟩, _, _, rfl, rfl, _, rfl, rfl, ?_, ?_⟩⟩
      · split <;> omega
      · split <;> omega
    rintro σ H ⟨many, rfl, rfl, hy0, hy1⟩
    refine ⟨fun σ H1 => ∃ (b : Addr) (zs : List Str), σ = [some (.ref a), some (.int most), some (.int many), some (.ref b), none, none, none, none, none] ∧ Same H H1 ∧ H1 b = some (.lst (zs.map V.str)) ∧ (1 ≤ zs.length ∧ zs.length ≤ 12) ∧ (∀ z ∈ zs, isW z = true) ∧ zs.Nodup, ?_, ?_⟩
    · exact ⟨_, rfl, a, ns, 0, rfl, hS, by decide, _, rfl, a, ns, 1, rfl, hS, by decide, _, rfl, _, _, many, rfl, by omega, by omega, fun H' b zs s1 hb hb1 hz hw hn => ⟨b, zs, rfl, s1, hb1, by omega, hw, hn⟩⟩
    rintro σ H1 ⟨b, zs, rfl, s1, hb1, hz, hw, hn⟩
    have hS1 := s1.seq hS
    refine ⟨fun σ H2 => ∃ one : Int, σ = [some (.ref a), some (.int most), some (.int many), some (.ref b), some (.int one), none, none, none, none] ∧ H2 = H1 ∧ 0 ≤ one ∧ one ≤ most, ?_, ?_⟩
    · have z0 : 0 ≤ cell ns 3 % (most + 1) := Int.emod_nonneg _ (by omega)
      have z1 : cell ns 3 % (most + 1) < most + 1 := Int.emod_lt_of_pos _ (by omega)
      exact ⟨_, rfl, _, rfl, a, ns, 3, rfl, hS1, by decide, _, rfl, _, _, rfl, rfl, _, _, rfl, rfl, (show (0 : Int) < most + 1 by omega), _, _, rfl, rfl, _, rfl, rfl, by omega, by omega⟩
    rintro σ H1 ⟨one, rfl, rfl, ho0, ho1⟩
    refine ⟨fun σ H2 => ∃ oth : Int, σ = [some (.ref a), some (.int most), some (.int many), some (.ref b), some (.int one), some (.int oth), none, none, none] ∧ H2 = H1 ∧ 0 ≤ oth ∧ oth ≤ most, ?_, ?_⟩
    · have z0 : 0 ≤ cell ns 4 % (most + 1) := Int.emod_nonneg _ (by omega)
      have z1 : cell ns 4 % (most + 1) < most + 1 := Int.emod_lt_of_pos _ (by omega)
      exact ⟨_, rfl, _, rfl, a, ns, 4, rfl, hS1, by decide, _, rfl, _, _, rfl, rfl, _, _, rfl, rfl, (show (0 : Int) < most + 1 by omega), _, _, rfl, rfl, _, rfl, rfl, by omega, by omega⟩
    rintro σ H1 ⟨oth, rfl, rfl, hq0, hq1⟩
    refine ⟨fun σ H2 => ∃ (x : Addr) (xs : List Str), σ = [some (.ref a), some (.int most), some (.int many), some (.ref b), some (.int one), some (.int oth), some (.ref x), none, none] ∧ Same H1 H2 ∧ H2 x = some (.lst (xs.map V.str)) ∧ xs.length = one.toNat ∧ ∀ w ∈ xs, w ∈ zs, ?_, ?_⟩
    · exact ⟨_, rfl, _, rfl, a, ns, 10, rfl, hS1, by decide, _, rfl, _, rfl, a, b, ns, zs, _, 16, one, rfl, hS1, hb1, ⟨hz.1, by omega⟩, by decide, ho0, by omega, fun H2 x xs s2 hx hx2 hl hin => ⟨x, xs, rfl, s2, hx2, hl, hin⟩⟩
    rintro σ H2 ⟨x, xs, rfl, s2, hx2, hxl, hxz⟩
    have s3 := s1.trans s2
    have hS2 := s2.seq hS1
    refine ⟨fun σ H3 => ∃ (y : Addr) (ys : List Str), σ = [some (.ref a), some (.int most), some (.int many), some (.ref b), some (.int one), some (.int oth), some (.ref x), some (.ref y), none] ∧ Same H2 H3 ∧ H3 y = some (.lst (ys.map V.str)) ∧ ys.length = oth.toNat, ?_, ?_⟩
    · exact ⟨_, rfl, _, rfl, a, ns, 11, rfl, hS2, by decide, _, rfl, _, rfl, _, rfl, a, b, x, ns, zs, xs, _, 17, oth, rfl, hS2, s2 _ _ hb1, hx2, ⟨hz.1, by omega⟩, by omega, hxz, by decide, hq0, by omega, fun H3 y ys s4 hy hy2 hl _ => ⟨y, ys, rfl, s4, hy2, hl⟩⟩
    rintro σ H3 ⟨y, ys, rfl, s4, hy3, hyl⟩
    have s5 := s3.trans s4
    have hS3 := s4.seq hS2
    refine ⟨fun σ H4 => ∃ (n : Addr) (sa ou iN le : Int), σ = [some (.ref a), some (.int most), some (.int many), some (.ref b), some (.int one), some (.int oth), some (.ref x), some (.ref y), some (.ref n)] ∧ Same H3 H4 ∧ H4 n = some (.lst [.int sa, .int ou, .int iN, .int le]) ∧ (1 ≤ sa ∧ sa ≤ 999999) ∧ (0 ≤ ou ∧ ou ≤ 999999) ∧ (0 ≤ iN ∧ iN ≤ 999999) ∧ (1 ≤ le ∧ le ≤ 999999), ?_, ?_⟩
    · exact ⟨_, rfl, a, ns, 5, rfl, hS3, by decide, fun H4 D sa ou iN le s6 hD hD4 h1 h2 h3 h4 => ⟨D, sa, ou, iN, le, rfl, s6, hD4, h1, h2, h3, h4⟩⟩
    rintro σ H4 ⟨n, sa, ou, iN, le, rfl, s6, hn4, h1, h2, h3, h4⟩
    have s7 := s5.trans s6
    have hS4 := s6.seq hS3
    have hb4 : H4 b = some (.lst (zs.map V.str)) := s6 _ _ (s4 _ _ (s2 _ _ hb1))
    refine ⟨_, rfl, _, rfl, _, rfl, _, rfl, a, ns, 9, rfl, hS4, by decide, _, rfl, _, rfl, b, _, rfl, .of hb4, fun b5 hb5 => ?_⟩
    have e5 : cutV (zs.map V.str) none (some 5) = (zs.take 5).map V.str := by
      have : HT.sIx (zs.map V.str).length (zs.map V.str).length (some 5) = min 5 zs.length := by
        rw [List.length_map]
        simp only [HT.sIx]
        split <;> omega
      have e0 : HT.sIx (zs.map V.str).length 0 none = 0 := by simp [HT.sIx]
      unfold cutV
      rw [this, e0, List.drop_zero, Nat.sub_zero, ← List.map_take]
      congr 1
      apply List.ext_getElem?
      intro i
      rw [List.getElem?_take, List.getElem?_take]
      by_cases hi : i < zs.length
      · by_cases h5 : i < 5
        · rw [if_pos (by omega), if_pos h5]
        · rw [if_neg (by omega), if_neg h5]
      · simp [List.getElem?_eq_none (by omega : zs.length ≤ i)]
    rw [e5]
    have s8 : Same H4 (upd H4 b5 (.lst ((zs.take 5).map V.str))) := Same.upd hb5
    have hn8 := s8 _ _ hn4
    refine ⟨_, rfl, n, _, 0, _, rfl, rfl, .of hn8, atI_nat (j := 0) rfl, _, sa, b5, zs.take 5, rfl, upd_same, by simp; omega, fun z hz => hw z (List.mem_of_mem_take hz), hn.sublist (List.take_sublist ..), h1.1, h1.2, fun H6 l us fs s9 hl hl6 T6 g6 => ?_⟩
    have sA := (s7.trans s8).trans s9
    refine ⟨le_line (by simp), fun r hr => ?_⟩
    have sB := Same.upd (o := .lst [.ref x, .ref y, .ref n, .ref l]) hr
    have sC := s9.trans sB
    refine q _ r ⟨xs, ys, sa, ou, iN, le, fs⟩ x y n l us (sA.trans sB) (sA.free hr) ⟨upd_same, ?_, ?_, ?_, sB _ _ hl6, T6.same sB⟩ ⟨by show xs.length ≤ _; omega, by show ys.length ≤ _; omega, g6, h1, h2, h3, h4⟩
    · exact sC _ _ (s8 _ _ (s6 _ _ (s4 _ _ hx2)))
    · exact sC _ _ (s8 _ _ (s6 _ _ hy3))
    · exact sC _ _ (s8 _ _ hn4)
theorem sc__law_pair : FnScope ["_law_x", "_law_y", "_law_same", "_law_near_here", "_law_old", "_law_new", "_law_price"] ["_law_x", "_law_y", "_law_same", "_law_near_here"] (defScope s__law_pair) := ⟨rfl, rfl, rfl, by decide +kernel, rfl, by decide +kernel, by decide +kernel⟩
theorem ok__law_pair {f : Addr} {fd : FuncData} (F : Fun K "_law_pair" "_law_pair" s__law_pair f fd) (T : TB mg) : FnOk P w K mg base (CXF P w) true 1 f fd ["_law_x", "_law_y", "_law_same", "_law_near_here"] sp_lpair := by
  refine F.okX sc__law_pair (fun vs H Q E h => ?_) (fun cdv A outer s H vs Q E hr h hX => ?_)
  · obtain ⟨x, y, same, l, xs, fs, rfl, _⟩ := h
    rfl
  · obtain ⟨x, y, same, l, xs, fs, rfl, hl, T1, q⟩ := h
    refine ⟨_, (@pss_cons _ _ _ _ _ (@ps_if _ _ _ _ _ _ _ _ (@pt_cmpR _ _ _ _ _ _ _ _ op_eq (@pv _ 0 _ _ (by rfl) (by first | exact Or.inl rfl | exact Or.inr (Or.inl rfl) | exact Or.inr (Or.inr rfl)) (by decide) (by decide)) (@pv _ 1 _ _ (by rfl) (by first | exact Or.inl rfl | exact Or.inr (Or.inl rfl) | exact Or.inr (Or.inr rfl)) (by decide) (by decide)) (nomark _)) (@pss_one _ _ _ (@ps_ret _ _ _ _ (@pv _ 2 _ _ (by rfl) (by first | exact Or.inl rfl | exact Or.inr (Or.inl rfl) | exact Or.inr (Or.inr rfl)) (by decide) (by decide)))) pss_nil) (@pss_cons _ _ _ _ _ (@ps_for _ _ _ _ _ _ _ _ hX.own (by exact rfl) (@pi_listK _ K _ _ _ (@pv _ 3 _ _ (by rfl) (by first | exact Or.inl rfl | exact Or.inr (Or.inl rfl) | exact Or.inr (Or.inr rfl)) (by decide) (by decide)) (by rfl)) (@pg_tupK _ K _ _ _ (3) _ (by exact rfl) (@pgs_cons _ _ _ _ _ (@pg_name _ _ (4) _ sc__law_pair.nd (by exact rfl) (Or.inl rfl) (by first | exact .inl rfl | exact .inr rfl | assumption)) (@pgs_cons _ _ _ _ _ (@pg_name _ _ (5) _ sc__law_pair.nd (by exact rfl) (Or.inl rfl) (by first | exact .inl rfl | exact .inr rfl | assumption)) (@pgs_cons _ _ _ _ _ (@pg_name _ _ (6) _ sc__law_pair.nd (by exact rfl) (Or.inl rfl) (by first | exact .inl rfl | exact .inr rfl | assumption)) pgs_nil (by rfl)) (by rfl)) (by rfl)) (by rfl) (by rfl) (by rfl)) (@pss_one _ _ _ (@ps_if _ _ _ _ _ _ _ _ (@PW.pt _ _ _ (@pw_and _ _ _ _ _ _ _ (@pt_cmpR _ _ _ _ _ _ _ _ op_eq (@pv _ 4 _ _ (by rfl) (by first | exact Or.inl rfl | exact Or.inr (Or.inl rfl) | exact Or.inr (Or.inr rfl)) (by decide) (by decide)) (@pv _ 0 _ _ (by rfl) (by first | exact Or.inl rfl | exact Or.inr (Or.inl rfl) | exact Or.inr (Or.inr rfl)) (by decide) (by decide)) (nomark _)) (@pw_and1 _ _ _ _ (@pt_cmpR _ _ _ _ _ _ _ _ op_eq (@pv _ 5 _ _ (by rfl) (by first | exact Or.inl rfl | exact Or.inr (Or.inl rfl) | exact Or.inr (Or.inr rfl)) (by decide) (by decide)) (@pv _ 1 _ _ (by rfl) (by first | exact Or.inl rfl | exact Or.inr (Or.inl rfl) | exact Or.inr (Or.inr rfl)) (by decide) (by decide)) (nomark _))))) (@pss_one _ _ _ (@ps_ret _ _ _ _ (@pe_op _ _ _ _ _ _ _ _ op_sub (@pv _ 2 _ _ (by rfl) (by first | exact Or.inl rfl | exact Or.inr (Or.inl rfl) | exact Or.inr (Or.inr rfl)) (by decide) (by decide)) (@pv _ 6 _ _ (by rfl) (by first | exact Or.inl rfl | exact Or.inr (Or.inl rfl) | exact Or.inr (Or.inr rfl)) (by decide) (by decide))))) pss_nil)) (by intro _; rfl)) (@pss_one _ _ _ (@ps_ret _ _ _ _ pe_non)))), ?_⟩
    refine ⟨_, rfl, _, rfl, rfl, _, rfl, ?_⟩
    refine ite2 (fun h => ?_) (fun h => ?_)
    · have h : x = y := by simpa using h
      rw [show pairW same fs x y = some same by simp [pairW, h]] at q
      exact ⟨_, rfl, q⟩
    have h : ¬ x = y := by simpa using h
    refine ⟨_, rfl, l, rfl, ⟨_, .of hl⟩, ?_⟩
    refine for_list (xs := xs) (fun i σ H' => (∃ u1 u2 u3, σ = [some (.str x), some (.str y), some (.int same), some (.ref l), u1, u2, u3]) ∧ H' = H ∧ ∀ f ∈ fs.take i, ¬ (f.1 = x ∧ f.2.1 = y)) ⟨⟨_, _, _, rfl⟩, rfl, by simp⟩ ?_ ?_ ?_
    · rintro i σ H' _ ⟨_, rfl, _⟩
      exact .of hl
    · rintro i v σ H' hv ⟨⟨u1, u2, u3, rfl⟩, rfl, hno⟩
      have hi : i < fs.length := by rw [← T1.1]; exact (List.getElem?_eq_some_iff.mp hv).1
      have hf : fs[i]? = some fs[i] := by simp [hi]
      generalize fs[i] = f0 at hf
      obtain ⟨t, ht1, ht2⟩ := T1.2 i f0 hf
      rw [hv] at ht1
      cases ht1
      obtain ⟨x0, y0, p0⟩ := f0
      refine ⟨t, _, rfl, .of ht2, rfl, _, _, rfl, _, _, rfl, _, _, rfl, rfl, ?_⟩
      have nxt : ¬ (x0 = x ∧ y0 = y) → ∀ f ∈ fs.take (i + 1), ¬ (f.1 = x ∧ f.2.1 = y) := fun hne f hfm => by
        rw [List.take_succ, hf] at hfm
        rcases List.mem_append.mp hfm with h | h
        · exact hno f h
        · have h : f = (x0, y0, p0) := by simpa using h
          rw [h]; exact hne
      refine ⟨_, rfl, _, rfl, rfl, _, rfl, ?_⟩
      refine ite2 (fun hh => ?_) (fun hh => ?_)
      · have ha1 : x0 = x := by simpa using hh
        refine ⟨_, rfl, _, rfl, rfl, _, rfl, ?_⟩
        refine ite2 (fun hh => ?_) (fun hh => ?_)
        · have hb1 : y0 = y := by simpa using hh
          have e : priceOf fs x y = some p0 := first_price hf hno ⟨ha1, hb1⟩
          rw [show pairW same fs x y = some (same - p0) by simp [pairW, h, e]] at q
          exact ⟨_, rfl, _, rfl, _, _, rfl, rfl, q⟩
        · have hb1 : ¬ y0 = y := by simpa using hh
          exact ⟨⟨_, _, _, rfl⟩, rfl, nxt fun z => hb1 z.2⟩
      · have ha1 : ¬ x0 = x := by simpa using hh
        refine iteF ?_
        exact ⟨⟨_, _, _, rfl⟩, rfl, nxt fun z => ha1 z.1⟩
    · rintro σ H' ⟨⟨u1, u2, u3, rfl⟩, rfl, hno⟩
      rw [T1.1, List.take_length] at hno
      have e : priceOf fs x y = none := no_price hno
      rw [show pairW same fs x y = none by simp [pairW, h, e]] at q
      exact q
theorem sc__law_worth : FnScope ["_law_case_here", "_law_way", "_law_total", "_law_k", "_law_i", "_law_j", "_law_gain"] ["_law_case_here", "_law_way"] (defScope s__law_worth) := ⟨rfl, rfl, rfl, by decide +kernel, rfl, by decide +kernel, by decide +kernel⟩
theorem ok__law_worth {f : Addr} {fd : FuncData} (F : Fun K "_law_worth" "_law_worth" s__law_worth f fd) (T : TB mg) (D__law_pair : IsDef P w K mg base true 1 "_law_pair" ["_law_x", "_law_y", "_law_same", "_law_near_here"] sp_lpair) : FnOk P w K mg base (CXF P w) true 2 f fd ["_law_case_here", "_law_way"] sp_lworth := by
  refine F.okX sc__law_worth (fun vs H Q E h => ?_) (fun cdv A outer s H vs Q E hr h hX => ?_)
  · obtain ⟨a, w, c, f, g, m, l, us, ws, ps, rfl, _⟩ := h
    rfl
  · obtain ⟨a, w, c, x1, x2, m, l, us, ws, ps, rfl, C1, no, hw, P1, hlen, hway, q⟩ := h
    obtain ⟨hne, hgo⟩ := isWay_good hway
    have hpos : 0 < ps.length := List.length_pos_iff.mpr hne
    have hul := P1.1
    have hca := C1.ca
    have hnu := C1.nu
    have nO := no.out
    have nI := no.into
    refine ⟨_, (@pss_cons _ _ _ _ _ (@ps_set _ _ (2) _ _ _ _ sc__law_worth.nd (by exact rfl) (Or.inl rfl) pe_int (by rfl) (by first | exact .inl rfl | exact .inr rfl | assumption)) (@pss_cons _ _ _ _ _ (@ps_for _ _ _ _ _ _ _ _ hX.own (by exact rfl) (@pi_range1 _ _ _ _ _ _ (by exact rfl) T.n_range (@pa_c _ _ _ _ _ (@pe_callB _ _ _ _ _ _ _ _ _ (call_len_seqK K) (by exact rfl) T.n_len PyProof.Rows.Boot.«len» (@pa_c _ _ _ _ _ (@pv _ 1 _ _ (by rfl) (by first | exact Or.inl rfl | exact Or.inr (Or.inl rfl) | exact Or.inr (Or.inr rfl)) (by decide) (by decide)) pa_nil (by rfl)) (by decide) (by decide) (by rfl) (by rfl)) pa_nil (by rfl)) (by rfl)) (@pg_name _ _ (3) _ sc__law_worth.nd (by exact rfl) (Or.inl rfl) (by first | exact .inl rfl | exact .inr rfl | assumption)) (@pss_cons _ _ _ _ _ (@ps_asg _ _ _ _ _ _ (@pe_ix _ _ _ _ _ _ _ (ix_listK K) (@pv _ 1 _ _ (by rfl) (by first | exact Or.inl rfl | exact Or.inr (Or.inl rfl) | exact Or.inr (Or.inr rfl)) (by decide) (by decide)) (@pv _ 3 _ _ (by rfl) (by first | exact Or.inl rfl | exact Or.inr (Or.inl rfl) | exact Or.inr (Or.inr rfl)) (by decide) (by decide)) (fun _ _ => rfl)) (@pg_tupK _ K _ _ _ (2) _ (by exact rfl) (@pgs_cons _ _ _ _ _ (@pg_name _ _ (4) _ sc__law_worth.nd (by exact rfl) (Or.inl rfl) (by first | exact .inl rfl | exact .inr rfl | assumption)) (@pgs_cons _ _ _ _ _ (@pg_name _ _ (5) _ sc__law_worth.nd (by exact rfl) (Or.inl rfl) (by first | exact .inl rfl | exact .inr rfl | assumption)) pgs_nil (by rfl)) (by rfl)) (by rfl) (by rfl) (by rfl)) (by rfl) (by rfl) (by rfl)) (@pss_cons _ _ _ _ _ (@ps_set _ _ (6) _ _ _ _ sc__law_worth.nd (by exact rfl) (Or.inl rfl) (@pe_def _ _ _ _ _ _ _ _ _ _ _ _ D__law_pair (hr.mono (by decide)) passF (@pa_c _ _ _ _ _ (@pe_ix _ _ _ _ _ _ _ (ix_listK K) (@pe_ix _ _ _ _ _ _ _ (ix_listK K) (@pv _ 0 _ _ (by rfl) (by first | exact Or.inl rfl | exact Or.inr (Or.inl rfl) | exact Or.inr (Or.inr rfl)) (by decide) (by decide)) pe_int (fun _ _ => rfl)) (@pv _ 4 _ _ (by rfl) (by first | exact Or.inl rfl | exact Or.inr (Or.inl rfl) | exact Or.inr (Or.inr rfl)) (by decide) (by decide)) (fun _ _ => rfl)) (@pa_c _ _ _ _ _ (@pe_ix _ _ _ _ _ _ _ (ix_listK K) (@pe_ix _ _ _ _ _ _ _ (ix_listK K) (@pv _ 0 _ _ (by rfl) (by first | exact Or.inl rfl | exact Or.inr (Or.inl rfl) | exact Or.inr (Or.inr rfl)) (by decide) (by decide)) pe_int (fun _ _ => rfl)) (@pv _ 5 _ _ (by rfl) (by first | exact Or.inl rfl | exact Or.inr (Or.inl rfl) | exact Or.inr (Or.inr rfl)) (by decide) (by decide)) (fun _ _ => rfl)) (@pa_c _ _ _ _ _ (@pe_ix _ _ _ _ _ _ _ (ix_listK K) (@pe_ix _ _ _ _ _ _ _ (ix_listK K) (@pv _ 0 _ _ (by rfl) (by first | exact Or.inl rfl | exact Or.inr (Or.inl rfl) | exact Or.inr (Or.inr rfl)) (by decide) (by decide)) pe_int (fun _ _ => rfl)) pe_int (fun _ _ => rfl)) (@pa_c _ _ _ _ _ (@pe_ix _ _ _ _ _ _ _ (ix_listK K) (@pv _ 0 _ _ (by rfl) (by first | exact Or.inl rfl | exact Or.inr (Or.inl rfl) | exact Or.inr (Or.inr rfl)) (by decide) (by decide)) pe_int (fun _ _ => rfl)) pa_nil (by rfl)) (by rfl)) (by rfl)) (by rfl)) (by rfl) (by decide) (by rfl) (by rfl)) (by rfl) (by first | exact .inl rfl | exact .inr rfl | assumption)) (@pss_cons _ _ _ _ _ (@ps_if _ _ _ _ _ _ _ _ (@pt_cmp _ _ _ _ _ _ (@pc_isN _ _ _ _ _ (@pv _ 6 _ _ (by rfl) (by first | exact Or.inl rfl | exact Or.inr (Or.inl rfl) | exact Or.inr (Or.inr rfl)) (by decide) (by decide))) (by first | exact nobehind _ (by decide) (by decide) | rfl)) (@pss_one _ _ _ (@ps_ret _ _ _ _ pe_non)) pss_nil) (@pss_cons _ _ _ _ _ (@ps_set _ _ (2) _ _ _ _ sc__law_worth.nd (by exact rfl) (Or.inl rfl) (@pe_op _ _ _ _ _ _ _ _ op_add (@pv _ 2 _ _ (by rfl) (by first | exact Or.inl rfl | exact Or.inr (Or.inl rfl) | exact Or.inr (Or.inr rfl)) (by decide) (by decide)) (@pv _ 6 _ _ (by rfl) (by first | exact Or.inl rfl | exact Or.inr (Or.inl rfl) | exact Or.inr (Or.inr rfl)) (by decide) (by decide))) (by rfl) (by first | exact .inl rfl | exact .inr rfl | assumption)) (@pss_one _ _ _ (@ps_if _ _ _ _ _ _ _ _ (@pt_cmpR _ _ _ _ _ _ _ _ op_gt (@pv _ 3 _ _ (by rfl) (by first | exact Or.inl rfl | exact Or.inr (Or.inl rfl) | exact Or.inr (Or.inr rfl)) (by decide) (by decide)) pe_int (nomark _)) (@pss_cons _ _ _ _ _ (@ps_set _ _ (2) _ _ _ _ sc__law_worth.nd (by exact rfl) (Or.inl rfl) (@pe_op _ _ _ _ _ _ _ _ op_sub (@pv _ 2 _ _ (by rfl) (by first | exact Or.inl rfl | exact Or.inr (Or.inl rfl) | exact Or.inr (Or.inr rfl)) (by decide) (by decide)) (@pe_op _ _ _ _ _ _ _ _ op_mul (@pe_ix _ _ _ _ _ _ _ (ix_listK K) (@pe_ix _ _ _ _ _ _ _ (ix_listK K) (@pv _ 0 _ _ (by rfl) (by first | exact Or.inl rfl | exact Or.inr (Or.inl rfl) | exact Or.inr (Or.inr rfl)) (by decide) (by decide)) pe_int (fun _ _ => rfl)) pe_int (fun _ _ => rfl)) (@pe_op _ _ _ _ _ _ _ _ op_sub (@pe_op _ _ _ _ _ _ _ _ op_sub (@pv _ 4 _ _ (by rfl) (by first | exact Or.inl rfl | exact Or.inr (Or.inl rfl) | exact Or.inr (Or.inr rfl)) (by decide) (by decide)) (@pe_ix _ _ _ _ _ _ _ (ix_tupK K) (@pe_ix _ _ _ _ _ _ _ (ix_listK K) (@pv _ 1 _ _ (by rfl) (by first | exact Or.inl rfl | exact Or.inr (Or.inl rfl) | exact Or.inr (Or.inr rfl)) (by decide) (by decide)) (@pe_op _ _ _ _ _ _ _ _ op_sub (@pv _ 3 _ _ (by rfl) (by first | exact Or.inl rfl | exact Or.inr (Or.inl rfl) | exact Or.inr (Or.inr rfl)) (by decide) (by decide)) pe_int) (fun _ _ => rfl)) pe_int (fun _ _ => rfl))) pe_int))) (by rfl) (by first | exact .inl rfl | exact .inr rfl | assumption)) (@pss_one _ _ _ (@ps_set _ _ (2) _ _ _ _ sc__law_worth.nd (by exact rfl) (Or.inl rfl) (@pe_op _ _ _ _ _ _ _ _ op_sub (@pv _ 2 _ _ (by rfl) (by first | exact Or.inl rfl | exact Or.inr (Or.inl rfl) | exact Or.inr (Or.inr rfl)) (by decide) (by decide)) (@pe_op _ _ _ _ _ _ _ _ op_mul (@pe_ix _ _ _ _ _ _ _ (ix_listK K) (@pe_ix _ _ _ _ _ _ _ (ix_listK K) (@pv _ 0 _ _ (by rfl) (by first | exact Or.inl rfl | exact Or.inr (Or.inl rfl) | exact Or.inr (Or.inr rfl)) (by decide) (by decide)) pe_int (fun _ _ => rfl)) pe_int (fun _ _ => rfl)) (@pe_op _ _ _ _ _ _ _ _ op_sub (@pe_op _ _ _ _ _ _ _ _ op_sub (@pv _ 5 _ _ (by rfl) (by first | exact Or.inl rfl | exact Or.inr (Or.inl rfl) | exact Or.inr (Or.inr rfl)) (by decide) (by decide)) (@pe_ix _ _ _ _ _ _ _ (ix_tupK K) (@pe_ix _ _ _ _ _ _ _ (ix_listK K) (@pv _ 1 _ _ (by rfl) (by first | exact Or.inl rfl | exact Or.inr (Or.inl rfl) | exact Or.inr (Or.inr rfl)) (by decide) (by decide)) (@pe_op _ _ _ _ _ _ _ _ op_sub (@pv _ 3 _ _ (by rfl) (by first | exact Or.inl rfl | exact Or.inr (Or.inl rfl) | exact Or.inr (Or.inr rfl)) (by decide) (by decide)) pe_int) (fun _ _ => rfl)) pe_int (fun _ _ => rfl))) pe_int))) (by rfl) (by first | exact .inl rfl | exact .inr rfl | assumption)))) pss_nil)))))) (by intro _; rfl)) (@pss_one _ _ _ (@ps_ret _ _ _ _ (@pv _ 2 _ _ (by rfl) (by first | exact Or.inl rfl | exact Or.inr (Or.inl rfl) | exact Or.inr (Or.inr rfl)) (by decide) (by decide)))))), ?_⟩
    refine ⟨_, rfl, w, _, rfl, .inl (.of hw), (ws.length : Int), rfl, by omega, by omega, ?_⟩
    refine for_range (fun i σ H' => (∃ (u1 u2 u3 u4 : Option V), σ = [some (.ref a), some (.ref w), some (.int (if i = 0 then 0 else worthAt c ps (i - 1))), u1, u2, u3, u4]) ∧ H' = H) ⟨⟨_, _, _, _, rfl⟩, rfl⟩ ?_ ?_
    · rintro i σ H' hi ⟨⟨u1, u2, u3, u4, rfl⟩, e0⟩
      subst e0
      have hi : i < ps.length := by omega
      obtain ⟨tt, ht1, ht2⟩ := P1.atN hi
      obtain ⟨wo, hwo⟩ := good_pw (hgo i hi)
      obtain ⟨b1, b2⟩ := c.pw_in hwo
      obtain ⟨x, hx1, hx2⟩ := wd_in b1.1 b1.2
      obtain ⟨y, hy1, hy2⟩ := wd_in b2.1 b2.2
      have ep : c.pw (pr ps i) = pairW c.same c.fs x y := Case.pw_of hx1 hy1
      refine ⟨_, rfl, _, rfl, w, _, _, _, rfl, rfl, .of hw, at0 ht1, tt, _, rfl, .of ht2, rfl, _, _, rfl, _, _, rfl, rfl, ?_⟩
      refine ⟨_, rfl, a, _, 0, _, rfl, rfl, .of hca, atI_nat (j := 0) rfl, _, rfl, x1, _, _, _, rfl, rfl, .of C1.fi, hx2, _, rfl, a, _, 1, _, rfl, rfl, .of hca, atI_nat (j := 1) rfl, _, rfl, x2, _, _, _, rfl, rfl, .of C1.se, hy2, _, rfl, a, _, 2, _, rfl, rfl, .of hca, atI_nat (j := 2) rfl, m, _, 0, _, rfl, rfl, .of hnu, atI_nat (j := 0) rfl, _, rfl, a, _, 3, _, rfl, rfl, .of hca, atI_nat (j := 3) rfl, x, y, c.same, l, us, c.fs, rfl, C1.ne, C1.tr, ?_⟩
      rw [← ep, hwo]
      refine ⟨_, rfl, _, rfl, ?_⟩
      refine ite2 (fun hh => absurd hh (by simp [optV])) (fun _ => ?_)
      refine ⟨_, rfl, _, rfl, _, _, rfl, rfl, ?_⟩
      refine ⟨_, rfl, _, _, rfl, rfl, _, rfl, ?_⟩
      refine ite2 (fun h2 => ?_) (fun h2 => ?_)
      · have h2 : 0 < i := by
          have : (0 : Int) < 0 + (i : Int) := by simpa using h2
          omega
        obtain ⟨j, rfl⟩ : ∃ j, i = j + 1 := ⟨i - 1, by omega⟩
        have e1 : ((0 + ((j + 1 : Nat) : Int)) - 1) = ((j : Nat) : Int) := by omega
        obtain ⟨t2, hq1, hq2⟩ := P1.atN (show j < ps.length by omega)
        have hat : atI ws ((0 + ((j + 1 : Nat) : Int)) - 1) = some (.ref t2) := by rw [e1]; exact atI_nat hq1
        refine ⟨_, rfl, _, rfl, a, _, 2, _, rfl, rfl, .of hca, atI_nat (j := 2) rfl, m, _, 1, _, rfl, rfl, .of hnu, atI_nat (j := 1) rfl, _, rfl, _, rfl, _, rfl, _, _, rfl, rfl, w, _, _, _, rfl, rfl, .of hw, hat, t2, _, 0, _, rfl, rfl, .of hq2, atI_nat (j := 0) rfl, _, _, rfl, rfl, _, _, rfl, rfl, _, _, rfl, rfl, .inl ⟨by omega, by omega⟩, _, _, rfl, rfl, ?_⟩
        refine ⟨_, rfl, _, rfl, a, _, 2, _, rfl, rfl, .of hca, atI_nat (j := 2) rfl, m, _, 2, _, rfl, rfl, .of hnu, atI_nat (j := 2) rfl, _, rfl, _, rfl, _, rfl, _, _, rfl, rfl, w, _, _, _, rfl, rfl, .of hw, hat, t2, _, 1, _, rfl, rfl, .of hq2, atI_nat (j := 1) rfl, _, _, rfl, rfl, _, _, rfl, rfl, _, _, rfl, rfl, .inl ⟨by omega, by omega⟩, _, _, rfl, rfl, ⟨some (.int (0 + ((j + 1 : Nat) : Int))), some (.int (pr ps (j + 1)).1), some (.int (pr ps (j + 1)).2), some (.int wo), ?_⟩, rfl⟩
        have : worthAt c ps (j + 1) = worthAt c ps j + wo - c.out * ((pr ps (j + 1)).1 - (pr ps j).1 - 1) - c.into * ((pr ps (j + 1)).2 - (pr ps j).2 - 1) := by
          simp only [worthAt, hwo, Case.gap, Option.getD_some]
          omega
        simp only [Nat.add_sub_cancel, Nat.succ_ne_zero, if_false, this]
        rfl
      · have h2 : i = 0 := by
          have : ¬ (0 : Int) < 0 + (i : Int) := by simpa using h2
          omega
        subst h2
        refine ⟨⟨some (.int (0 + ((0 : Nat) : Int))), some (.int (pr ps 0).1), some (.int (pr ps 0).2), some (.int wo), ?_⟩, rfl⟩
        have : worthAt c ps 0 = 0 + wo := by simp [worthAt, hwo]
        simp only [Nat.zero_add, Nat.sub_self, Nat.one_ne_zero, if_false, this]
        rfl
    · rintro σ H' ⟨⟨u1, u2, u3, u4, rfl⟩, rfl⟩
      have e : ((ws.length : Nat) : Int).toNat = ps.length := by omega
      rw [e, if_neg (by omega)]
      exact ⟨_, rfl, q⟩
theorem sc__law_drawn : FnScope ["_law_case_here", "_law_cell", "_law_way", "_law_rest", "_law_i", "_law_j", "_law_gain", "_law_fits"] ["_law_case_here", "_law_cell"] (defScope s__law_drawn) := ⟨rfl, rfl, rfl, by decide +kernel, rfl, by decide +kernel, by decide +kernel⟩
theorem ok__law_drawn {f : Addr} {fd : FuncData} (F : Fun K "_law_drawn" "_law_drawn" s__law_drawn f fd) (T : TB mg) (D__law_pair : IsDef P w K mg base true 1 "_law_pair" ["_law_x", "_law_y", "_law_same", "_law_near_here"] sp_lpair) : FnOk P w K mg base (CXF P w) true 2 f fd ["_law_case_here", "_law_cell"] sp_ldrawn := by
  refine F.okX sc__law_drawn (fun vs H Q E h => ?_) (fun cdv A outer s H vs Q E hr h hX => ?_)
  · obtain ⟨a, k, c, f, g, m, l, us, rfl, _⟩ := h
    rfl
  · obtain ⟨a, k, c, x1, x2, m, l, us, rfl, C1, hx, hy, q⟩ := h
    have hu := hr.units
    have hu0 : (A.deeper (PyProof.Rows.envOfC "_law_drawn" (defScope s__law_drawn) s.heap.objs.size f cdv)).units < cLine := by omega
    have lx : (c.xs.map V.str).length = c.xs.length := List.length_map ..
    have ly : (c.ys.map V.str).length = c.ys.length := List.length_map ..
    refine ⟨_, (@pss_cons _ _ _ _ _ (@ps_set _ _ (2) _ _ _ _ sc__law_drawn.nd (by exact rfl) (Or.inl rfl) (@pe_lst _ _ _ _ pa_nil) (by rfl) (by first | exact .inl rfl | exact .inr rfl | assumption)) (@pss_cons _ _ _ _ _ (@ps_set _ _ (3) _ _ _ _ sc__law_drawn.nd (by exact rfl) (Or.inl rfl) (@pv _ 1 _ _ (by rfl) (by first | exact Or.inl rfl | exact Or.inr (Or.inl rfl) | exact Or.inr (Or.inr rfl)) (by decide) (by decide)) (by rfl) (by first | exact .inl rfl | exact .inr rfl | assumption)) (@pss_cons _ _ _ _ _ (@ps_for _ _ _ _ _ _ _ _ hX.own (by exact rfl) (@pi_range1 _ _ _ _ _ _ (by exact rfl) T.n_range (@pa_c _ _ _ _ _ (@pe_callB _ _ _ _ _ _ _ _ _ (call_len_seqK K) (by exact rfl) T.n_len PyProof.Rows.Boot.«len» (@pa_c _ _ _ _ _ (@pe_ix _ _ _ _ _ _ _ (ix_listK K) (@pv _ 0 _ _ (by rfl) (by first | exact Or.inl rfl | exact Or.inr (Or.inl rfl) | exact Or.inr (Or.inr rfl)) (by decide) (by decide)) pe_int (fun _ _ => rfl)) pa_nil (by rfl)) (by decide) (by decide) (by rfl) (by rfl)) pa_nil (by rfl)) (by rfl)) (@pg_name _ _ (4) _ sc__law_drawn.nd (by exact rfl) (Or.inl rfl) (by first | exact .inl rfl | exact .inr rfl | assumption)) (@pss_one _ _ _ (@ps_for _ _ _ _ _ _ _ _ hX.own (by exact rfl) (@pi_range1 _ _ _ _ _ _ (by exact rfl) T.n_range (@pa_c _ _ _ _ _ (@pe_callB _ _ _ _ _ _ _ _ _ (call_len_seqK K) (by exact rfl) T.n_len PyProof.Rows.Boot.«len» (@pa_c _ _ _ _ _ (@pe_ix _ _ _ _ _ _ _ (ix_listK K) (@pv _ 0 _ _ (by rfl) (by first | exact Or.inl rfl | exact Or.inr (Or.inl rfl) | exact Or.inr (Or.inr rfl)) (by decide) (by decide)) pe_int (fun _ _ => rfl)) pa_nil (by rfl)) (by decide) (by decide) (by rfl) (by rfl)) pa_nil (by rfl)) (by rfl)) (@pg_name _ _ (5) _ sc__law_drawn.nd (by exact rfl) (Or.inl rfl) (by first | exact .inl rfl | exact .inr rfl | assumption)) (@pss_cons _ _ _ _ _ (@ps_set _ _ (6) _ _ _ _ sc__law_drawn.nd (by exact rfl) (Or.inl rfl) (@pe_def _ _ _ _ _ _ _ _ _ _ _ _ D__law_pair (hr.mono (by decide)) passF (@pa_c _ _ _ _ _ (@pe_ix _ _ _ _ _ _ _ (ix_listK K) (@pe_ix _ _ _ _ _ _ _ (ix_listK K) (@pv _ 0 _ _ (by rfl) (by first | exact Or.inl rfl | exact Or.inr (Or.inl rfl) | exact Or.inr (Or.inr rfl)) (by decide) (by decide)) pe_int (fun _ _ => rfl)) (@pv _ 4 _ _ (by rfl) (by first | exact Or.inl rfl | exact Or.inr (Or.inl rfl) | exact Or.inr (Or.inr rfl)) (by decide) (by decide)) (fun _ _ => rfl)) (@pa_c _ _ _ _ _ (@pe_ix _ _ _ _ _ _ _ (ix_listK K) (@pe_ix _ _ _ _ _ _ _ (ix_listK K) (@pv _ 0 _ _ (by rfl) (by first | exact Or.inl rfl | exact Or.inr (Or.inl rfl) | exact Or.inr (Or.inr rfl)) (by decide) (by decide)) pe_int (fun _ _ => rfl)) (@pv _ 5 _ _ (by rfl) (by first | exact Or.inl rfl | exact Or.inr (Or.inl rfl) | exact Or.inr (Or.inr rfl)) (by decide) (by decide)) (fun _ _ => rfl)) (@pa_c _ _ _ _ _ (@pe_ix _ _ _ _ _ _ _ (ix_listK K) (@pe_ix _ _ _ _ _ _ _ (ix_listK K) (@pv _ 0 _ _ (by rfl) (by first | exact Or.inl rfl | exact Or.inr (Or.inl rfl) | exact Or.inr (Or.inr rfl)) (by decide) (by decide)) pe_int (fun _ _ => rfl)) pe_int (fun _ _ => rfl)) (@pa_c _ _ _ _ _ (@pe_ix _ _ _ _ _ _ _ (ix_listK K) (@pv _ 0 _ _ (by rfl) (by first | exact Or.inl rfl | exact Or.inr (Or.inl rfl) | exact Or.inr (Or.inr rfl)) (by decide) (by decide)) pe_int (fun _ _ => rfl)) pa_nil (by rfl)) (by rfl)) (by rfl)) (by rfl)) (by rfl) (by decide) (by rfl) (by rfl)) (by rfl) (by first | exact .inl rfl | exact .inr rfl | assumption)) (@pss_cut _ _ _ _ _ (@ps_set _ _ (7) _ _ _ _ sc__law_drawn.nd (by exact rfl) (Or.inl rfl) (@pe_or _ _ _ _ _ _ _ (@pe_cmpR _ _ _ _ _ _ _ _ (op_eq_listK K hu0) (@pv _ 2 _ _ (by rfl) (by first | exact Or.inl rfl | exact Or.inr (Or.inl rfl) | exact Or.inr (Or.inr rfl)) (by decide) (by decide)) (@pe_lst _ _ _ _ pa_nil) (nomark _)) (@pe_one _ _ _ _ _ (@pe_and _ _ _ _ _ _ _ (@pe_cmpR _ _ _ _ _ _ _ _ op_lt (@pe_ix _ _ _ _ _ _ _ (ix_tupK K) (@pe_ix _ _ _ _ _ _ _ (ix_listK K) (@pv _ 2 _ _ (by rfl) (by first | exact Or.inl rfl | exact Or.inr (Or.inl rfl) | exact Or.inr (Or.inr rfl)) (by decide) (by decide)) (@pe_un _ _ _ _ _ _ un_neg pe_int) (fun _ _ => rfl)) pe_int (fun _ _ => rfl)) (@pv _ 4 _ _ (by rfl) (by first | exact Or.inl rfl | exact Or.inr (Or.inl rfl) | exact Or.inr (Or.inr rfl)) (by decide) (by decide)) (nomark _)) (@pe_one _ _ _ _ _ (@pe_cmpR _ _ _ _ _ _ _ _ op_lt (@pe_ix _ _ _ _ _ _ _ (ix_tupK K) (@pe_ix _ _ _ _ _ _ _ (ix_listK K) (@pv _ 2 _ _ (by rfl) (by first | exact Or.inl rfl | exact Or.inr (Or.inl rfl) | exact Or.inr (Or.inr rfl)) (by decide) (by decide)) (@pe_un _ _ _ _ _ _ un_neg pe_int) (fun _ _ => rfl)) pe_int (fun _ _ => rfl)) (@pv _ 5 _ _ (by rfl) (by first | exact Or.inl rfl | exact Or.inr (Or.inl rfl) | exact Or.inr (Or.inr rfl)) (by decide) (by decide)) (nomark _)))))) (by rfl) (by first | exact .inl rfl | exact .inr rfl | assumption)) (@pss_one _ _ _ (@ps_if _ _ _ _ _ _ _ _ (@PW.pt _ _ _ (@pw_and _ _ _ _ _ _ _ (@pt_val _ _ _ (@pv _ 7 _ _ (by rfl) (by first | exact Or.inl rfl | exact Or.inr (Or.inl rfl) | exact Or.inr (Or.inr rfl)) (by decide) (by decide)) (by intro _; rfl)) (@pw_and1 _ _ _ _ (@pt_cmp _ _ _ _ _ _ (@pc_notN _ _ _ _ _ (@pv _ 6 _ _ (by rfl) (by first | exact Or.inl rfl | exact Or.inr (Or.inl rfl) | exact Or.inr (Or.inr rfl)) (by decide) (by decide))) (by first | exact nobehind _ (by decide) (by decide) | rfl))))) (@pss_cut _ _ _ _ _ (@ps_if _ _ _ _ _ _ _ _ (@pt_cmpR _ _ _ _ _ _ _ _ op_eq (@pe_op _ _ _ _ _ _ _ _ op_mod (@pv _ 3 _ _ (by rfl) (by first | exact Or.inl rfl | exact Or.inr (Or.inl rfl) | exact Or.inr (Or.inr rfl)) (by decide) (by decide)) pe_int) pe_int (nomark _)) (@pss_one _ _ _ (@ps_expr _ _ _ _ (@pe_bmK _ K _ _ _ _ _ _ _ _ _ _ _ PySem.F.plainAttrs_list PySem.F.slot_list_append PySem.F.type_list_append mt_append (@pv _ 2 _ _ (by rfl) (by first | exact Or.inl rfl | exact Or.inr (Or.inl rfl) | exact Or.inr (Or.inr rfl)) (by decide) (by decide)) (@pa_c _ _ _ _ _ (@pe_tup _ _ _ _ _ (@pa_c _ _ _ _ _ (@pv _ 4 _ _ (by rfl) (by first | exact Or.inl rfl | exact Or.inr (Or.inl rfl) | exact Or.inr (Or.inr rfl)) (by decide) (by decide)) (@pa_c _ _ _ _ _ (@pv _ 5 _ _ (by rfl) (by first | exact Or.inl rfl | exact Or.inr (Or.inl rfl) | exact Or.inr (Or.inr rfl)) (by decide) (by decide)) pa_nil (by rfl)) (by rfl))) pa_nil (by rfl)) (by rfl) (by rfl) (by rfl) (by rfl) (by rfl) (by rfl)) (by rfl))) pss_nil) (@pss_one _ _ _ (@ps_set _ _ (3) _ _ _ _ sc__law_drawn.nd (by exact rfl) (Or.inl rfl) (@pe_op _ _ _ _ _ _ _ _ op_fdiv (@pv _ 3 _ _ (by rfl) (by first | exact Or.inl rfl | exact Or.inr (Or.inl rfl) | exact Or.inr (Or.inr rfl)) (by decide) (by decide)) pe_int) (by rfl) (by first | exact .inl rfl | exact .inr rfl | assumption)))) pss_nil)))) (by intro _; rfl))) (by intro _; rfl)) (@pss_one _ _ _ (@ps_ret _ _ _ _ (@pv _ 2 _ _ (by rfl) (by first | exact Or.inl rfl | exact Or.inr (Or.inl rfl) | exact Or.inr (Or.inr rfl)) (by decide) (by decide))))))), ?_⟩
    refine ⟨le_line (by simp), fun b hb => ?_⟩
    refine ⟨_, rfl, ?_⟩
    have C2 := C1.keep (Same.upd (o := .lst []) hb)
    refine ⟨_, rfl, a, _, 0, _, rfl, rfl, .of C2.ca, atI_nat (j := 0) rfl, x1, _, rfl, .inl (.of C2.fi), ((c.xs.map V.str).length : Int), rfl, by omega, by omega, ?_⟩
    refine for_range (fun i σ H' => (∃ (r : Int) (u1 u2 u3 u4 : Option V), σ = [some (.ref a), some (.int k), some (.ref b), some (.int r), u1, u2, u3, u4]) ∧ Same H H' ∧ ∃ xs ps, H' b = some (.lst xs) ∧ Prs H' xs ps ∧ goodTo c ps ps.length ∧ ps.length ≤ i * 40) ⟨⟨_, _, _, _, _, rfl⟩, Same.upd hb, [], [], upd_same, .nil, fun k hk => by simp at hk, by simp⟩ ?_ ?_
    · rintro i σ H' hi ⟨⟨r, u1, u2, u3, u4, rfl⟩, s1, xs, ps, hb1, P1, G1, L1⟩
      have hi : i < c.xs.length := by omega
      have C3 := C1.keep s1
      refine ⟨_, rfl, a, _, 1, _, rfl, rfl, .of C3.ca, atI_nat (j := 1) rfl, x2, _, rfl, .inl (.of C3.se), ((c.ys.map V.str).length : Int), rfl, by omega, by omega, ?_⟩
      refine for_range (fun j σ H' => (∃ (r : Int) (u2 u3 u4 : Option V), σ = [some (.ref a), some (.int k), some (.ref b), some (.int r), some (.int (0 + (i : Int))), u2, u3, u4]) ∧ Same H H' ∧ ∃ xs ps, H' b = some (.lst xs) ∧ Prs H' xs ps ∧ goodTo c ps ps.length ∧ ps.length ≤ i * 40 + j) ⟨⟨_, _, _, _, rfl⟩, s1, xs, ps, hb1, P1, G1, L1⟩ ?_ ?_
      · clear s1 hb1 P1 G1 L1 xs ps u1 u2 u3 u4 r C3 H'
        rintro j σ H' hj ⟨⟨r, u2, u3, u4, rfl⟩, s1, xs, ps, hb1, P1, G1, L1⟩
        have hj : j < c.ys.length := by omega
        have C3 := C1.keep s1
        obtain ⟨x, hx1, hx2⟩ := wd_in (xs := c.xs) (i := 0 + (i : Int)) (by omega) (by omega)
        obtain ⟨y, hy1, hy2⟩ := wd_in (xs := c.ys) (i := 0 + (j : Int)) (by omega) (by omega)
        have ep : c.pw (0 + (i : Int), 0 + (j : Int)) = pairW c.same c.fs x y := Case.pw_of hx1 hy1
        refine ⟨_, rfl, a, _, 0, _, rfl, rfl, .of C3.ca, atI_nat (j := 0) rfl, _, rfl, x1, _, _, _, rfl, rfl, .of C3.fi, hx2, _, rfl, a, _, 1, _, rfl, rfl, .of C3.ca, atI_nat (j := 1) rfl, _, rfl, x2, _, _, _, rfl, rfl, .of C3.se, hy2, _, rfl, a, _, 2, _, rfl, rfl, .of C3.ca, atI_nat (j := 2) rfl, m, _, 0, _, rfl, rfl, .of C3.nu, atI_nat (j := 0) rfl, _, rfl, a, _, 3, _, rfl, rfl, .of C3.ca, atI_nat (j := 3) rfl, x, y, c.same, l, us, c.fs, rfl, C3.ne, C3.tr, ?_⟩
        rw [← ep]
        have hfew : xs.length ≤ 1640 ∧ ps.length ≤ 1640 := by
          have := P1.1
          have : i * 40 ≤ 40 * 40 := Nat.mul_le_mul_right _ (by omega)
          omega
        have out : ∃ xs ps, H' b = some (.lst xs) ∧ Prs H' xs ps ∧ goodTo c ps ps.length ∧ ps.length ≤ i * 40 + (j + 1) := ⟨xs, ps, hb1, P1, G1, by omega⟩
        -- whether it fits
        refine ⟨fun σ H2 => ∃ (b1 : Bool), σ = [some (.ref a), some (.int k), some (.ref b), some (.int r), some (.int (0 + (i : Int))), some (.int (0 + (j : Int))), some (optV (c.pw (0 + (i : Int), 0 + (j : Int)))), some (.bl b1)] ∧ Same H' H2 ∧ (b1 = true → ps = [] ∨ stepOk (pr ps (ps.length - 1)) (0 + (i : Int), 0 + (j : Int)) = true), ?_, ?_⟩
        · refine ⟨_, rfl, le_line (by simp), fun pn hpn => ⟨b, pn, xs, [], (fun _ => true), rfl, rfl, .of (Same.upd hpn _ _ hb1), .of upd_same, (fun j x y h1 h2 => by simp at h2), _, rfl, ?_⟩⟩
          have s2 : Same H' (upd H' pn (.lst [])) := Same.upd hpn
          have P2 := P1.same s2
          have hb2 := s2 _ _ hb1
          refine ite2 (fun h1 => ?_) (fun h1 => ?_)
          · refine ⟨_, rfl, s2, fun _ => .inl ?_⟩
            simp at h1
            have := P1.1
            rw [h1] at this
            exact List.length_eq_zero_iff.mp this.symm
          · have hne : xs ≠ [] := by
              intro z
              subst z
              simp at h1
            have hlen := P1.1
            have hpos : 0 < ps.length := by
              have := List.length_pos_iff.mpr hne
              omega
            obtain ⟨t, ht1, ht2⟩ := P2.atN (k := ps.length - 1) (by omega)
            have hat : atI xs (-1) = some (.ref t) := by
              have e : xs = xs.take (ps.length - 1) ++ [V.ref t] := by
                apply List.ext_getElem?
                intro n
                by_cases hn : n < ps.length - 1
                · rw [List.getElem?_append_left (by rw [List.length_take]; omega), List.getElem?_take, if_pos hn]
                · rw [List.getElem?_append_right (by rw [List.length_take]; omega), List.length_take]
                  by_cases hn2 : n = ps.length - 1
                  · subst hn2
                    rw [ht1]
                    have : ps.length - 1 - min (ps.length - 1) xs.length = 0 := by omega
                    rw [this]; rfl
                  · rw [List.getElem?_eq_none (by omega), List.getElem?_eq_none (by simp; omega)]
              rw [e]
              exact atI_last _ _
            refine ⟨_, rfl, _, rfl, b, _, _, _, rfl, rfl, .of hb2, hat, t, _, 0, _, rfl, rfl, .of ht2, atI_nat (j := 0) rfl, _, rfl, _, _, rfl, rfl, _, rfl, ?_⟩
            refine ite2 (fun h2 => ?_) (fun h2 => ?_)
            · refine ⟨_, rfl, _, rfl, b, _, _, _, rfl, rfl, .of hb2, hat, t, _, 1, _, rfl, rfl, .of ht2, atI_nat (j := 1) rfl, _, rfl, _, _, rfl, rfl, ?_⟩
              refine ⟨_, rfl, s2, fun h3 => .inr ?_⟩
              rw [stepOk, h2, h3]; rfl
            · exact ⟨_, rfl, s2, fun h3 => absurd h3 (by simp)⟩
        rintro σ H2 ⟨b1, rfl, s2, hfit⟩
        have s3 := s1.trans s2
        refine ⟨_, rfl, _, rfl, ?_⟩
        refine ite2 (fun h1 => ?_) (fun h1 => ?_)
        rotate_left
        · refine iteF ?_
          exact ⟨⟨_, _, _, _, rfl⟩, s3, xs, ps, s2 _ _ hb1, P1.same s2, G1, by omega⟩
        have h1 : b1 = true := h1
        refine ⟨_, rfl, _, rfl, ?_⟩
        refine ite2 (fun h2 => ?_) (fun h2 => ?_)
        rotate_left
        · exact ⟨⟨_, _, _, _, rfl⟩, s3, xs, ps, s2 _ _ hb1, P1.same s2, G1, by omega⟩
        have h2 : (c.pw (0 + (i : Int), 0 + (j : Int))).isSome = true := by
          cases e : c.pw (0 + (i : Int), 0 + (j : Int)) with
          | none => rw [e] at h2; simp [optV] at h2
          | some w => rfl
        refine ⟨fun σ H3 => σ = [some (.ref a), some (.int k), some (.ref b), some (.int r), some (.int (0 + (i : Int))), some (.int (0 + (j : Int))), some (optV (c.pw (0 + (i : Int), 0 + (j : Int)))), some (.bl b1)] ∧ Same H H3 ∧ ∃ xs ps, H3 b = some (.lst xs) ∧ Prs H3 xs ps ∧ goodTo c ps ps.length ∧ ps.length ≤ i * 40 + (j + 1), ?_, ?_⟩
        · refine ⟨_, rfl, _, _, rfl, rfl, (show (0 : Int) < 2 by decide), rfl, _, rfl, ?_⟩
          refine ite2 (fun h3 => ?_) (fun h3 => ?_)
          rotate_left
          · exact ⟨rfl, s3, xs, ps, s2 _ _ hb1, P1.same s2, G1, by omega⟩
          refine ⟨_, rfl, .inl ⟨rfl, _, .of (s2 _ _ hb1)⟩, _, rfl, _, rfl, le_line (by simp), fun t ht => ⟨b, xs, _, rfl, rfl, Same.upd ht _ _ (s2 _ _ hb1), lt_line (by omega), rfl, (s3.trans (Same.upd ht)).upd2 hb, _, ps ++ [(0 + (i : Int), 0 + (j : Int))], upd_same, ?_, ?_, by simp; omega⟩⟩
          · have P4 : Prs (upd H2 t (.tup (prV (0 + (i : Int), 0 + (j : Int))))) (xs ++ [.ref t]) (ps ++ [(0 + (i : Int), 0 + (j : Int))]) := ((P1.same s2).same (Same.upd ht)).snoc upd_same
            exact P4.tups (Tups.lst (Same.upd ht _ _ (s2 _ _ hb1)))
          · rw [List.length_append]
            exact good_snoc G1 h2 (hfit h1)
        rintro σ H3 ⟨rfl, s4, xs3, ps3, hb3, P3, G3, L3⟩
        exact ⟨_, rfl, _, _, rfl, rfl, ⟨by decide, by decide⟩, ⟨_, _, _, _, rfl⟩, s4, xs3, ps3, hb3, P3, G3, L3⟩
      · rintro σ H2 ⟨⟨r2, v2, v3, v4, rfl⟩, s2, xs2, ps2, hb2, P2, G2, L2⟩
        exact ⟨⟨_, _, _, _, _, rfl⟩, s2, xs2, ps2, hb2, P2, G2, by omega⟩
    · rintro σ H2 ⟨⟨r2, v1, v2, v3, v4, rfl⟩, s2, xs2, ps2, hb2, P2, G2, L2⟩
      refine ⟨_, rfl, q H2 b xs2 ps2 s2 hb hb2 P2 ?_ G2⟩
      have : ((c.xs.map V.str).length : Int).toNat ≤ 40 := by omega
      have := Nat.mul_le_mul_right 40 this
      omega
theorem sc__law_row : FnScope ["_law_found", "_law_due", "_law_k"] ["_law_found", "_law_due"] (defScope s__law_row) := ⟨rfl, rfl, rfl, by decide +kernel, rfl, by decide +kernel, by decide +kernel⟩
theorem ok__law_row {f : Addr} {fd : FuncData} (F : Fun K "_law_row" "_law_row" s__law_row f fd) (T : TB mg) (D__law_whole : IsDef P w K mg base true 1 "_law_whole" ["_law_found"] sp_whole) : FnOk P w K mg base (CXF P w) true 2 f fd ["_law_found", "_law_due"] sp_row := by
  refine F.okX sc__law_row (fun vs H Q E h => ?_) (fun cdv A outer s H vs Q E hr h hX => ?_)
  · obtain ⟨a, b, is, rfl, _⟩ := h
    rfl
  · obtain ⟨a, b, is, rfl, ha, hb, hlen, q⟩ := h
    have el : (is.map V.int).length = is.length := List.length_map ..
    refine ⟨_, (@pss_cons _ _ _ _ _ (@ps_if _ _ _ _ _ _ _ _ (@PW.pt _ _ _ (@pw_or _ _ _ _ _ _ _ (@pt_not _ _ _ _ (@pt_val _ _ _ (@pe_callB _ _ _ _ _ _ _ _ _ (call_isiK K) (by exact rfl) T.n_isinstance PyProof.Rows.Boot.«isinstance» (@pa_c _ _ _ _ _ (@pv _ 0 _ _ (by rfl) (by first | exact Or.inl rfl | exact Or.inr (Or.inl rfl) | exact Or.inr (Or.inr rfl)) (by decide) (by decide)) (@pa_c _ _ _ _ _ (@pe_bltn _ _ (.ty "list") _ _ (by exact rfl) T.n_list PyProof.Rows.Boot.«list» (by exact rfl) (by decide) (by decide)) pa_nil (by rfl)) (by rfl)) (by decide) (by decide) (by rfl) (by rfl)) (by intro _; rfl))) (@pw_or1 _ _ _ _ (@pt_cmpR _ _ _ _ _ _ _ _ op_ne (@pe_callB _ _ _ _ _ _ _ _ _ (call_len_seqK K) (by exact rfl) T.n_len PyProof.Rows.Boot.«len» (@pa_c _ _ _ _ _ (@pv _ 0 _ _ (by rfl) (by first | exact Or.inl rfl | exact Or.inr (Or.inl rfl) | exact Or.inr (Or.inr rfl)) (by decide) (by decide)) pa_nil (by rfl)) (by decide) (by decide) (by rfl) (by rfl)) (@pe_callB _ _ _ _ _ _ _ _ _ (call_len_seqK K) (by exact rfl) T.n_len PyProof.Rows.Boot.«len» (@pa_c _ _ _ _ _ (@pv _ 1 _ _ (by rfl) (by first | exact Or.inl rfl | exact Or.inr (Or.inl rfl) | exact Or.inr (Or.inr rfl)) (by decide) (by decide)) pa_nil (by rfl)) (by decide) (by decide) (by rfl) (by rfl)) (nomark _))))) (@pss_one _ _ _ (@ps_ret _ _ _ _ pe_bl)) pss_nil) (@pss_cons _ _ _ _ _ (@ps_for _ _ _ _ _ _ _ _ hX.own (by exact rfl) (@pi_range1 _ _ _ _ _ _ (by exact rfl) T.n_range (@pa_c _ _ _ _ _ (@pe_callB _ _ _ _ _ _ _ _ _ (call_len_seqK K) (by exact rfl) T.n_len PyProof.Rows.Boot.«len» (@pa_c _ _ _ _ _ (@pv _ 1 _ _ (by rfl) (by first | exact Or.inl rfl | exact Or.inr (Or.inl rfl) | exact Or.inr (Or.inr rfl)) (by decide) (by decide)) pa_nil (by rfl)) (by decide) (by decide) (by rfl) (by rfl)) pa_nil (by rfl)) (by rfl)) (@pg_name _ _ (2) _ sc__law_row.nd (by exact rfl) (Or.inl rfl) (by first | exact .inl rfl | exact .inr rfl | assumption)) (@pss_one _ _ _ (@ps_if _ _ _ _ _ _ _ _ (@PW.pt _ _ _ (@pw_or _ _ _ _ _ _ _ (@pt_not _ _ _ _ (@pt_val _ _ _ (@pe_def _ _ _ _ _ _ _ _ _ _ _ _ D__law_whole (hr.mono (by decide)) passF (@pa_c _ _ _ _ _ (@pe_ix _ _ _ _ _ _ _ (ix_listK K) (@pv _ 0 _ _ (by rfl) (by first | exact Or.inl rfl | exact Or.inr (Or.inl rfl) | exact Or.inr (Or.inr rfl)) (by decide) (by decide)) (@pv _ 2 _ _ (by rfl) (by first | exact Or.inl rfl | exact Or.inr (Or.inl rfl) | exact Or.inr (Or.inr rfl)) (by decide) (by decide)) (fun _ _ => rfl)) pa_nil (by rfl)) (by rfl) (by decide) (by rfl) (by rfl)) (by intro _; rfl))) (@pw_or1 _ _ _ _ (@pt_cmpR _ _ _ _ _ _ _ _ op_ne (@pe_ix _ _ _ _ _ _ _ (ix_listK K) (@pv _ 0 _ _ (by rfl) (by first | exact Or.inl rfl | exact Or.inr (Or.inl rfl) | exact Or.inr (Or.inr rfl)) (by decide) (by decide)) (@pv _ 2 _ _ (by rfl) (by first | exact Or.inl rfl | exact Or.inr (Or.inl rfl) | exact Or.inr (Or.inr rfl)) (by decide) (by decide)) (fun _ _ => rfl)) (@pe_ix _ _ _ _ _ _ _ (ix_listK K) (@pv _ 1 _ _ (by rfl) (by first | exact Or.inl rfl | exact Or.inr (Or.inl rfl) | exact Or.inr (Or.inr rfl)) (by decide) (by decide)) (@pv _ 2 _ _ (by rfl) (by first | exact Or.inl rfl | exact Or.inr (Or.inl rfl) | exact Or.inr (Or.inr rfl)) (by decide) (by decide)) (fun _ _ => rfl)) (nomark _))))) (@pss_one _ _ _ (@ps_ret _ _ _ _ pe_bl)) pss_nil)) (by intro _; rfl)) (@pss_one _ _ _ (@ps_ret _ _ _ _ pe_bl)))), ?_⟩
    refine ⟨_, rfl, _, _, _, true, _, rfl, rfl, .lst ha, rfl, _, rfl, ?_⟩
    refine iteF ?_
    refine ⟨_, rfl, a, _, rfl, .inl (.of ha), _, rfl, b, _, rfl, .inl (.of hb), rfl, _, rfl, ?_⟩
    refine ite2 (fun hh => absurd hh (by simp)) (fun _ => ?_)
    refine ⟨_, rfl, b, _, rfl, .inl (.of hb), ((is.map V.int).length : Int), rfl, by omega, by omega, ?_⟩
    refine for_range (fun i σ H' => (∃ u, σ = [some (.ref a), some (.ref b), u]) ∧ H' = H) ⟨⟨_, rfl⟩, rfl⟩ ?_ ?_
    · rintro i σ H' hi ⟨⟨u, rfl⟩, rfl⟩
      have hi : i < is.length := by omega
      have hx : (is.map V.int)[i]? = some (.int is[i]) := by simp [hi]
      generalize is[i] = v at hx
      refine ⟨_, rfl, _, rfl, a, _, _, _, rfl, rfl, .of ha, at0 hx, v, rfl, _, rfl, ?_⟩
      refine iteF ?_
      refine ⟨_, rfl, _, rfl, a, _, _, _, rfl, rfl, .of ha, at0 hx, _, rfl, _, rfl, b, _, _, _, rfl, rfl, .of hb, at0 hx, rfl, _, rfl, ?_⟩
      refine ite2 (fun hh => absurd hh (by simp)) (fun _ => ?_)
      exact ⟨⟨_, rfl⟩, rfl⟩
    · rintro σ H' ⟨⟨u, rfl⟩, rfl⟩
      exact q
theorem sc__law_kind : FnScope ["_law_e", "_law_fits", "_law_told", "_law_alone"] ["_law_e"] (defScope s__law_kind) := ⟨rfl, rfl, rfl, by decide +kernel, rfl, by decide +kernel, by decide +kernel⟩
theorem ok__law_kind {f : Addr} {fd : FuncData} (F : Fun K "_law_kind" "_law_kind" s__law_kind f fd) (T : TB mg) (e_BadWord : Er K mg "BadWord" C_BadWord) (e_BadBook : Er K mg "BadBook" C_BadBook) (e_BadTerms : Er K mg "BadTerms" C_BadTerms) (e_BadNear : Er K mg "BadNear" C_BadNear) (e_BadWay : Er K mg "BadWay" C_BadWay) (e_BadName : Er K mg "BadName" C_BadName) (e_BadYear : Er K mg "BadYear" C_BadYear) (e_NameTaken : Er K mg "NameTaken" C_NameTaken) (e_Full : Er K mg "Full" C_Full) (e_TooMany : Er K mg "TooMany" C_TooMany) (e_NoBook : Er K mg "NoBook" C_NoBook) (e_NoFinding : Er K mg "NoFinding" C_NoFinding) (e_HasLeft : Er K mg "HasLeft" C_HasLeft) (e_BadSearch : Er K mg "BadSearch" C_BadSearch) : FnOk P w K mg base (CXF P w) false 1 f fd ["_law_e"] (sp_kind K [C_BadWord, C_BadBook, C_BadTerms, C_BadNear, C_BadWay, C_BadName, C_BadYear, C_NameTaken, C_Full, C_TooMany, C_NoBook, C_NoFinding, C_HasLeft, C_BadSearch]) := by
  refine F.okX sc__law_kind (fun vs H Q E h => ?_) (fun cdv A outer s H vs Q E hr h hX => ?_)
  · obtain ⟨x, C, j, rfl, _⟩ := h
    rfl
  · obtain ⟨x, C, j, rfl, hx, hE, hj, ⟨fit, fitV⟩, q⟩ := h
    refine ⟨_, (@pss_cut _ _ _ _ _ (@ps_set _ _ (1) _ _ _ _ sc__law_kind.nd (by exact rfl) (Or.inl rfl) (@pe_lst _ _ _ _ (@pa_c _ _ _ _ _ (@pe_callB _ _ _ _ _ _ _ _ _ (call_isiXK K) (by exact rfl) T.n_isinstance PyProof.Rows.Boot.«isinstance» (@pa_c _ _ _ _ _ (@pv _ 0 _ _ (by rfl) (by first | exact Or.inl rfl | exact Or.inr (Or.inl rfl) | exact Or.inr (Or.inr rfl)) (by decide) (by decide)) (@pa_c _ _ _ _ _ (@pe_glob _ _ (.ref _) _ _ (by exact rfl) e_BadWord.m (by exact rfl) (by decide)) pa_nil (by rfl)) (by rfl)) (by decide) (by decide) (by rfl) (by rfl)) (@pa_c _ _ _ _ _ (@pe_callB _ _ _ _ _ _ _ _ _ (call_isiXK K) (by exact rfl) T.n_isinstance PyProof.Rows.Boot.«isinstance» (@pa_c _ _ _ _ _ (@pv _ 0 _ _ (by rfl) (by first | exact Or.inl rfl | exact Or.inr (Or.inl rfl) | exact Or.inr (Or.inr rfl)) (by decide) (by decide)) (@pa_c _ _ _ _ _ (@pe_glob _ _ (.ref _) _ _ (by exact rfl) e_BadBook.m (by exact rfl) (by decide)) pa_nil (by rfl)) (by rfl)) (by decide) (by decide) (by rfl) (by rfl)) (@pa_c _ _ _ _ _ (@pe_callB _ _ _ _ _ _ _ _ _ (call_isiXK K) (by exact rfl) T.n_isinstance PyProof.Rows.Boot.«isinstance» (@pa_c _ _ _ _ _ (@pv _ 0 _ _ (by rfl) (by first | exact Or.inl rfl | exact Or.inr (Or.inl rfl) | exact Or.inr (Or.inr rfl)) (by decide) (by decide)) (@pa_c _ _ _ _ _ (@pe_glob _ _ (.ref _) _ _ (by exact rfl) e_BadTerms.m (by exact rfl) (by decide)) pa_nil (by rfl)) (by rfl)) (by decide) (by decide) (by rfl) (by rfl)) (@pa_c _ _ _ _ _ (@pe_callB _ _ _ _ _ _ _ _ _ (call_isiXK K) (by exact rfl) T.n_isinstance PyProof.Rows.Boot.«isinstance» (@pa_c _ _ _ _ _ (@pv _ 0 _ _ (by rfl) (by first | exact Or.inl rfl | exact Or.inr (Or.inl rfl) | exact Or.inr (Or.inr rfl)) (by decide) (by decide)) (@pa_c _ _ _ _ _ (@pe_glob _ _ (.ref _) _ _ (by exact rfl) e_BadNear.m (by exact rfl) (by decide)) pa_nil (by rfl)) (by rfl)) (by decide) (by decide) (by rfl) (by rfl)) pa_nil (by rfl)) (by rfl)) (by rfl)) (by rfl))) (by rfl) (by first | exact .inl rfl | exact .inr rfl | assumption)) (@pss_cut _ _ _ _ _ (@ps_set _ _ (1) _ _ _ _ sc__law_kind.nd (by exact rfl) (Or.inl rfl) (@pe_op _ _ _ _ _ _ _ _ op_cat (@pv _ 1 _ _ (by rfl) (by first | exact Or.inl rfl | exact Or.inr (Or.inl rfl) | exact Or.inr (Or.inr rfl)) (by decide) (by decide)) (@pe_lst _ _ _ _ (@pa_c _ _ _ _ _ (@pe_callB _ _ _ _ _ _ _ _ _ (call_isiXK K) (by exact rfl) T.n_isinstance PyProof.Rows.Boot.«isinstance» (@pa_c _ _ _ _ _ (@pv _ 0 _ _ (by rfl) (by first | exact Or.inl rfl | exact Or.inr (Or.inl rfl) | exact Or.inr (Or.inr rfl)) (by decide) (by decide)) (@pa_c _ _ _ _ _ (@pe_glob _ _ (.ref _) _ _ (by exact rfl) e_BadWay.m (by exact rfl) (by decide)) pa_nil (by rfl)) (by rfl)) (by decide) (by decide) (by rfl) (by rfl)) (@pa_c _ _ _ _ _ (@pe_callB _ _ _ _ _ _ _ _ _ (call_isiXK K) (by exact rfl) T.n_isinstance PyProof.Rows.Boot.«isinstance» (@pa_c _ _ _ _ _ (@pv _ 0 _ _ (by rfl) (by first | exact Or.inl rfl | exact Or.inr (Or.inl rfl) | exact Or.inr (Or.inr rfl)) (by decide) (by decide)) (@pa_c _ _ _ _ _ (@pe_glob _ _ (.ref _) _ _ (by exact rfl) e_BadName.m (by exact rfl) (by decide)) pa_nil (by rfl)) (by rfl)) (by decide) (by decide) (by rfl) (by rfl)) (@pa_c _ _ _ _ _ (@pe_callB _ _ _ _ _ _ _ _ _ (call_isiXK K) (by exact rfl) T.n_isinstance PyProof.Rows.Boot.«isinstance» (@pa_c _ _ _ _ _ (@pv _ 0 _ _ (by rfl) (by first | exact Or.inl rfl | exact Or.inr (Or.inl rfl) | exact Or.inr (Or.inr rfl)) (by decide) (by decide)) (@pa_c _ _ _ _ _ (@pe_glob _ _ (.ref _) _ _ (by exact rfl) e_BadYear.m (by exact rfl) (by decide)) pa_nil (by rfl)) (by rfl)) (by decide) (by decide) (by rfl) (by rfl)) (@pa_c _ _ _ _ _ (@pe_callB _ _ _ _ _ _ _ _ _ (call_isiXK K) (by exact rfl) T.n_isinstance PyProof.Rows.Boot.«isinstance» (@pa_c _ _ _ _ _ (@pv _ 0 _ _ (by rfl) (by first | exact Or.inl rfl | exact Or.inr (Or.inl rfl) | exact Or.inr (Or.inr rfl)) (by decide) (by decide)) (@pa_c _ _ _ _ _ (@pe_glob _ _ (.ref _) _ _ (by exact rfl) e_NameTaken.m (by exact rfl) (by decide)) pa_nil (by rfl)) (by rfl)) (by decide) (by decide) (by rfl) (by rfl)) pa_nil (by rfl)) (by rfl)) (by rfl)) (by rfl)))) (by rfl) (by first | exact .inl rfl | exact .inr rfl | assumption)) (@pss_cut _ _ _ _ _ (@ps_set _ _ (1) _ _ _ _ sc__law_kind.nd (by exact rfl) (Or.inl rfl) (@pe_op _ _ _ _ _ _ _ _ op_cat (@pv _ 1 _ _ (by rfl) (by first | exact Or.inl rfl | exact Or.inr (Or.inl rfl) | exact Or.inr (Or.inr rfl)) (by decide) (by decide)) (@pe_lst _ _ _ _ (@pa_c _ _ _ _ _ (@pe_callB _ _ _ _ _ _ _ _ _ (call_isiXK K) (by exact rfl) T.n_isinstance PyProof.Rows.Boot.«isinstance» (@pa_c _ _ _ _ _ (@pv _ 0 _ _ (by rfl) (by first | exact Or.inl rfl | exact Or.inr (Or.inl rfl) | exact Or.inr (Or.inr rfl)) (by decide) (by decide)) (@pa_c _ _ _ _ _ (@pe_glob _ _ (.ref _) _ _ (by exact rfl) e_Full.m (by exact rfl) (by decide)) pa_nil (by rfl)) (by rfl)) (by decide) (by decide) (by rfl) (by rfl)) (@pa_c _ _ _ _ _ (@pe_callB _ _ _ _ _ _ _ _ _ (call_isiXK K) (by exact rfl) T.n_isinstance PyProof.Rows.Boot.«isinstance» (@pa_c _ _ _ _ _ (@pv _ 0 _ _ (by rfl) (by first | exact Or.inl rfl | exact Or.inr (Or.inl rfl) | exact Or.inr (Or.inr rfl)) (by decide) (by decide)) (@pa_c _ _ _ _ _ (@pe_glob _ _ (.ref _) _ _ (by exact rfl) e_TooMany.m (by exact rfl) (by decide)) pa_nil (by rfl)) (by rfl)) (by decide) (by decide) (by rfl) (by rfl)) (@pa_c _ _ _ _ _ (@pe_callB _ _ _ _ _ _ _ _ _ (call_isiXK K) (by exact rfl) T.n_isinstance PyProof.Rows.Boot.«isinstance» (@pa_c _ _ _ _ _ (@pv _ 0 _ _ (by rfl) (by first | exact Or.inl rfl | exact Or.inr (Or.inl rfl) | exact Or.inr (Or.inr rfl)) (by decide) (by decide)) (@pa_c _ _ _ _ _ (@pe_glob _ _ (.ref _) _ _ (by exact rfl) e_NoBook.m (by exact rfl) (by decide)) pa_nil (by rfl)) (by rfl)) (by decide) (by decide) (by rfl) (by rfl)) (@pa_c _ _ _ _ _ (@pe_callB _ _ _ _ _ _ _ _ _ (call_isiXK K) (by exact rfl) T.n_isinstance PyProof.Rows.Boot.«isinstance» (@pa_c _ _ _ _ _ (@pv _ 0 _ _ (by rfl) (by first | exact Or.inl rfl | exact Or.inr (Or.inl rfl) | exact Or.inr (Or.inr rfl)) (by decide) (by decide)) (@pa_c _ _ _ _ _ (@pe_glob _ _ (.ref _) _ _ (by exact rfl) e_NoFinding.m (by exact rfl) (by decide)) pa_nil (by rfl)) (by rfl)) (by decide) (by decide) (by rfl) (by rfl)) pa_nil (by rfl)) (by rfl)) (by rfl)) (by rfl)))) (by rfl) (by first | exact .inl rfl | exact .inr rfl | assumption)) (@pss_cut _ _ _ _ _ (@ps_set _ _ (1) _ _ _ _ sc__law_kind.nd (by exact rfl) (Or.inl rfl) (@pe_op _ _ _ _ _ _ _ _ op_cat (@pv _ 1 _ _ (by rfl) (by first | exact Or.inl rfl | exact Or.inr (Or.inl rfl) | exact Or.inr (Or.inr rfl)) (by decide) (by decide)) (@pe_lst _ _ _ _ (@pa_c _ _ _ _ _ (@pe_callB _ _ _ _ _ _ _ _ _ (call_isiXK K) (by exact rfl) T.n_isinstance PyProof.Rows.Boot.«isinstance» (@pa_c _ _ _ _ _ (@pv _ 0 _ _ (by rfl) (by first | exact Or.inl rfl | exact Or.inr (Or.inl rfl) | exact Or.inr (Or.inr rfl)) (by decide) (by decide)) (@pa_c _ _ _ _ _ (@pe_glob _ _ (.ref _) _ _ (by exact rfl) e_HasLeft.m (by exact rfl) (by decide)) pa_nil (by rfl)) (by rfl)) (by decide) (by decide) (by rfl) (by rfl)) (@pa_c _ _ _ _ _ (@pe_callB _ _ _ _ _ _ _ _ _ (call_isiXK K) (by exact rfl) T.n_isinstance PyProof.Rows.Boot.«isinstance» (@pa_c _ _ _ _ _ (@pv _ 0 _ _ (by rfl) (by first | exact Or.inl rfl | exact Or.inr (Or.inl rfl) | exact Or.inr (Or.inr rfl)) (by decide) (by decide)) (@pa_c _ _ _ _ _ (@pe_glob _ _ (.ref _) _ _ (by exact rfl) e_BadSearch.m (by exact rfl) (by decide)) pa_nil (by rfl)) (by rfl)) (by decide) (by decide) (by rfl) (by rfl)) pa_nil (by rfl)) (by rfl)))) (by rfl) (by first | exact .inl rfl | exact .inr rfl | assumption)) (@pss_cut _ _ _ _ _ (@ps_set _ _ (2) _ _ _ _ sc__law_kind.nd (by exact rfl) (Or.inl rfl) (@pe_lst _ _ _ _ (@pa_c _ _ _ _ _ pe_str (@pa_c _ _ _ _ _ pe_str (@pa_c _ _ _ _ _ pe_str (@pa_c _ _ _ _ _ pe_str (@pa_c _ _ _ _ _ pe_str (@pa_c _ _ _ _ _ pe_str (@pa_c _ _ _ _ _ pe_str (@pa_c _ _ _ _ _ pe_str (@pa_c _ _ _ _ _ pe_str (@pa_c _ _ _ _ _ pe_str (@pa_c _ _ _ _ _ pe_str pa_nil (by rfl)) (by rfl)) (by rfl)) (by rfl)) (by rfl)) (by rfl)) (by rfl)) (by rfl)) (by rfl)) (by rfl)) (by rfl))) (by rfl) (by first | exact .inl rfl | exact .inr rfl | assumption)) (@pss_cut _ _ _ _ _ (@ps_set _ _ (2) _ _ _ _ sc__law_kind.nd (by exact rfl) (Or.inl rfl) (@pe_op _ _ _ _ _ _ _ _ op_cat (@pv _ 2 _ _ (by rfl) (by first | exact Or.inl rfl | exact Or.inr (Or.inl rfl) | exact Or.inr (Or.inr rfl)) (by decide) (by decide)) (@pe_lst _ _ _ _ (@pa_c _ _ _ _ _ pe_str (@pa_c _ _ _ _ _ pe_str (@pa_c _ _ _ _ _ pe_str pa_nil (by rfl)) (by rfl)) (by rfl)))) (by rfl) (by first | exact .inl rfl | exact .inr rfl | assumption)) (@pss_cut _ _ _ _ _ (@ps_set _ _ (3) _ _ _ _ sc__law_kind.nd (by exact rfl) (Or.inl rfl) (@pe_and _ _ _ _ _ _ _ (@pe_cmpR _ _ _ _ _ _ _ _ op_eq (@pe_bmK _ K _ _ _ _ _ _ _ _ _ _ _ PySem.F.plainAttrs_list PySem.F.slot_list_count PySem.F.type_list_count mt_count (@pv _ 1 _ _ (by rfl) (by first | exact Or.inl rfl | exact Or.inr (Or.inl rfl) | exact Or.inr (Or.inr rfl)) (by decide) (by decide)) (@pa_c _ _ _ _ _ pe_bl pa_nil (by rfl)) (by rfl) (by rfl) (by rfl) (by rfl) (by rfl) (by rfl)) pe_int (nomark _)) (@pe_one _ _ _ _ _ (@pe_callB _ _ _ _ _ _ _ _ _ (call_isiXK K) (by exact rfl) T.n_isinstance PyProof.Rows.Boot.«isinstance» (@pa_c _ _ _ _ _ (@pv _ 0 _ _ (by rfl) (by first | exact Or.inl rfl | exact Or.inr (Or.inl rfl) | exact Or.inr (Or.inr rfl)) (by decide) (by decide)) (@pa_c _ _ _ _ _ (@pe_bltn _ _ (.ty "ValueError") _ _ (by exact rfl) T.n_ValueError PyProof.Rows.Boot.«ValueError» (by exact rfl) (by decide) (by decide)) pa_nil (by rfl)) (by rfl)) (by decide) (by decide) (by rfl) (by rfl)))) (by rfl) (by first | exact .inl rfl | exact .inr rfl | assumption)) (@pss_one _ _ _ (@ps_ret _ _ _ _ (@pe_ix _ _ _ _ _ _ _ (ix_listK K) (@pe_op _ _ _ _ _ _ _ _ op_cat (@pv _ 2 _ _ (by rfl) (by first | exact Or.inl rfl | exact Or.inr (Or.inl rfl) | exact Or.inr (Or.inr rfl)) (by decide) (by decide)) (@pe_lst _ _ _ _ (@pa_c _ _ _ _ _ pe_str pa_nil (by rfl)))) (@pe_ifExp _ _ _ _ _ _ _ _ (@pt_val _ _ _ (@pv _ 3 _ _ (by rfl) (by first | exact Or.inl rfl | exact Or.inr (Or.inl rfl) | exact Or.inr (Or.inr rfl)) (by decide) (by decide)) (by intro _; rfl)) (@pe_bmK _ K _ _ _ _ _ _ _ _ _ _ _ PySem.F.plainAttrs_list PySem.F.slot_list_index PySem.F.type_list_index mt_index (@pv _ 1 _ _ (by rfl) (by first | exact Or.inl rfl | exact Or.inr (Or.inl rfl) | exact Or.inr (Or.inr rfl)) (by decide) (by decide)) (@pa_c _ _ _ _ _ pe_bl pa_nil (by rfl)) (by rfl) (by rfl) (by rfl) (by rfl) (by rfl) (by rfl)) pe_int) (fun _ _ => rfl))))))))))), ?_⟩
    refine ⟨fun σ H1 => ∃ pf, σ = [some (.ref x), some (.ref pf), none, none] ∧ H1 pf = some (.lst [.bl (decide (0 = j)), .bl (decide (1 = j)), .bl (decide (2 = j)), .bl (decide (3 = j))]) ∧ Same H H1, ?_, ?_⟩
    · exact ⟨_, rfl, x, C, _, _, _, rfl, hx, hE, rfl, fit 0 _ rfl, _, rfl, x, C, _, _, _, rfl, hx, hE, rfl, fit 1 _ rfl, _, rfl, x, C, _, _, _, rfl, hx, hE, rfl, fit 2 _ rfl, _, rfl, x, C, _, _, _, rfl, hx, hE, rfl, fit 3 _ rfl, le_line (by simp), fun p1 hp1 => ⟨p1, rfl, upd_same, Same.upd hp1⟩⟩
    rintro σ H1 ⟨p1, rfl, hf1, s1⟩
    have hx1 := s1 _ _ hx
    refine ⟨fun σ H2 => ∃ pf, σ = [some (.ref x), some (.ref pf), none, none] ∧ H2 pf = some (.lst [.bl (decide (0 = j)), .bl (decide (1 = j)), .bl (decide (2 = j)), .bl (decide (3 = j)), .bl (decide (4 = j)), .bl (decide (5 = j)), .bl (decide (6 = j)), .bl (decide (7 = j))]) ∧ Same H H2, ?_, ?_⟩
    · refine ⟨_, rfl, _, rfl, x, C, _, _, _, rfl, hx1, hE, rfl, fit 4 _ rfl, _, rfl, x, C, _, _, _, rfl, hx1, hE, rfl, fit 5 _ rfl, _, rfl, x, C, _, _, _, rfl, hx1, hE, rfl, fit 6 _ rfl, _, rfl, x, C, _, _, _, rfl, hx1, hE, rfl, fit 7 _ rfl, le_line (by simp), fun pn hpn => ⟨p1, pn, _, _, rfl, rfl, Same.upd hpn _ _ hf1, upd_same, le_line (by simp), fun p3 hp3 => ⟨p3, rfl, upd_same, ?_⟩⟩⟩
      exact s1.trans ((Same.upd hpn).trans (Same.upd hp3))
    rintro σ H2 ⟨p2, rfl, hf2, s2⟩
    have hx2 := s2 _ _ hx
    refine ⟨fun σ H3 => ∃ pf, σ = [some (.ref x), some (.ref pf), none, none] ∧ H3 pf = some (.lst [.bl (decide (0 = j)), .bl (decide (1 = j)), .bl (decide (2 = j)), .bl (decide (3 = j)), .bl (decide (4 = j)), .bl (decide (5 = j)), .bl (decide (6 = j)), .bl (decide (7 = j)), .bl (decide (8 = j)), .bl (decide (9 = j)), .bl (decide (10 = j)), .bl (decide (11 = j))]) ∧ Same H H3, ?_, ?_⟩
    · refine ⟨_, rfl, _, rfl, x, C, _, _, _, rfl, hx2, hE, rfl, fit 8 _ rfl, _, rfl, x, C, _, _, _, rfl, hx2, hE, rfl, fit 9 _ rfl, _, rfl, x, C, _, _, _, rfl, hx2, hE, rfl, fit 10 _ rfl, _, rfl, x, C, _, _, _, rfl, hx2, hE, rfl, fit 11 _ rfl, le_line (by simp), fun pn hpn => ⟨p2, pn, _, _, rfl, rfl, Same.upd hpn _ _ hf2, upd_same, le_line (by simp), fun p3 hp3 => ⟨p3, rfl, upd_same, ?_⟩⟩⟩
      exact s2.trans ((Same.upd hpn).trans (Same.upd hp3))
    rintro σ H3 ⟨p3, rfl, hf3, s3⟩
    have hx3 := s3 _ _ hx
    refine ⟨fun σ H4 => ∃ pf, σ = [some (.ref x), some (.ref pf), none, none] ∧ H4 pf = some (.lst [.bl (decide (0 = j)), .bl (decide (1 = j)), .bl (decide (2 = j)), .bl (decide (3 = j)), .bl (decide (4 = j)), .bl (decide (5 = j)), .bl (decide (6 = j)), .bl (decide (7 = j)), .bl (decide (8 = j)), .bl (decide (9 = j)), .bl (decide (10 = j)), .bl (decide (11 = j)), .bl (decide (12 = j)), .bl (decide (13 = j))]) ∧ Same H H4, ?_, ?_⟩
    · refine ⟨_, rfl, _, rfl, x, C, _, _, _, rfl, hx3, hE, rfl, fit 12 _ rfl, _, rfl, x, C, _, _, _, rfl, hx3, hE, rfl, fit 13 _ rfl, le_line (by simp), fun pn hpn => ⟨p3, pn, _, _, rfl, rfl, Same.upd hpn _ _ hf3, upd_same, le_line (by simp), fun p3 hp3 => ⟨p3, rfl, upd_same, ?_⟩⟩⟩
      exact s3.trans ((Same.upd hpn).trans (Same.upd hp3))
    rintro σ H4 ⟨p4, rfl, hf4, s4⟩
    have hx4 := s4 _ _ hx
    refine ⟨fun σ H5 => ∃ pt, σ = [some (.ref x), some (.ref p4), some (.ref pt), none] ∧ H5 p4 = some (.lst (fl j)) ∧ H5 pt = some (.lst [.str "word", .str "book", .str "terms", .str "near", .str "way", .str "name", .str "year", .str "taken", .str "full", .str "many", .str "no book"]) ∧ Same H H5, ?_, ?_⟩
    · exact ⟨le_line (by simp), fun p hp => ⟨p, rfl, by rw [upd_ne (ne_of_none hf4 hp)]; exact hf4, upd_same, s4.trans (Same.upd hp)⟩⟩
    rintro σ H5 ⟨p5, rfl, hf5, ht5, s5⟩
    refine ⟨fun σ H6 => ∃ pt, σ = [some (.ref x), some (.ref p4), some (.ref pt), none] ∧ H6 p4 = some (.lst (fl j)) ∧ H6 pt = some (.lst [.str "word", .str "book", .str "terms", .str "near", .str "way", .str "name", .str "year", .str "taken", .str "full", .str "many", .str "no book", .str "no finding", .str "left", .str "search"]) ∧ Same H H6, ?_, ?_⟩
    · refine ⟨_, rfl, le_line (by simp), fun pn hpn => ⟨p5, pn, _, _, rfl, rfl, Same.upd hpn _ _ ht5, upd_same, le_line (by simp), fun p3 hp3 => ⟨p3, rfl, ?_, upd_same, s5.trans ((Same.upd hpn).trans (Same.upd hp3))⟩⟩⟩
      exact Same.upd hp3 _ _ (Same.upd hpn _ _ hf5)
    rintro σ H6 ⟨p6, rfl, hf6, ht6, s6⟩
    have hx6 := s6 _ _ hx
    refine ⟨fun σ H7 => σ = [some (.ref x), some (.ref p4), some (.ref p6), some (.bl true)] ∧ H7 = H6, ?_, ?_⟩
    · refine ⟨_, rfl, .inl ⟨rfl, _, .of hf6⟩, p4, fl j, _, rfl, rfl, hf6, rfl, fl_flat j, rfl, _, rfl, ?_⟩
      rw [fl_count hj]
      refine iteT ?_
      exact ⟨_, rfl, x, C, _, _, _, rfl, hx6, hE, rfl, fitV, rfl, rfl⟩
    rintro σ H7 ⟨rfl, rfl⟩
    refine ⟨_, rfl, le_line (by simp), fun p hp => ⟨p6, p, _, _, rfl, rfl, Same.upd hp _ _ ht6, upd_same, le_line (by simp), fun p7 hp7 => ⟨_, rfl, _, rfl, ?_⟩⟩⟩
    refine iteT ?_
    refine ⟨_, rfl, .inl ⟨rfl, _, .of (Same.upd hp7 _ _ (Same.upd hp _ _ hf6))⟩, p4, fl j, _, j, rfl, rfl, Same.upd hp7 _ _ (Same.upd hp _ _ hf6), rfl, fl_flat j, fl_at hj, fl_no hj, ?_⟩
    exact ⟨p7, _, _, _, rfl, rfl, .of upd_same, kind_at hj, q _ (s6.trans ((Same.upd hp).trans (Same.upd hp7)))⟩
theorem sc__law_terms : FnScope ["_law_case_here", "_law_n"] ["_law_case_here"] (defScope s__law_terms) := ⟨rfl, rfl, rfl, by decide +kernel, rfl, by decide +kernel, by decide +kernel⟩
theorem ok__law_terms {f : Addr} {fd : FuncData} (F : Fun K "_law_terms" "_law_terms" s__law_terms f fd) (T : TB mg) (N6_Terms : IsNew P w K mg base true 5 "Terms" C_Terms ["self", "same", "out", "into", "least", "part", "near"] [] (sp_init C_Terms C_BadTerms C_BadNear)) : FnOk P w K mg base (CXF P w) true 7 f fd ["_law_case_here"] (sp_lterms C_Terms) := by
  refine F.okX sc__law_terms (fun vs H Q E h => ?_) (fun cdv A outer s H vs Q E hr h hX => ?_)
  · obtain ⟨a, c, f, g, m, l, us, most, rfl, _⟩ := h
    rfl
  · obtain ⟨a, c, x1, x2, m, l, us, most, rfl, C1, ok, q⟩ := h
    refine ⟨_, (@pss_cons _ _ _ _ _ (@ps_set _ _ (1) _ _ _ _ sc__law_terms.nd (by exact rfl) (Or.inl rfl) (@pe_ix _ _ _ _ _ _ _ (ix_listK K) (@pv _ 0 _ _ (by rfl) (by first | exact Or.inl rfl | exact Or.inr (Or.inl rfl) | exact Or.inr (Or.inr rfl)) (by decide) (by decide)) pe_int (fun _ _ => rfl)) (by rfl) (by first | exact .inl rfl | exact .inr rfl | assumption)) (@pss_one _ _ _ (@ps_ret _ _ _ _ (@pe_newD _ _ _ _ _ _ _ _ _ _ _ _ _ _ N6_Terms (hr.mono (by decide)) hX.pass (@pa_c _ _ _ _ _ (@pe_ix _ _ _ _ _ _ _ (ix_listK K) (@pv _ 1 _ _ (by rfl) (by first | exact Or.inl rfl | exact Or.inr (Or.inl rfl) | exact Or.inr (Or.inr rfl)) (by decide) (by decide)) pe_int (fun _ _ => rfl)) (@pa_c _ _ _ _ _ (@pe_ix _ _ _ _ _ _ _ (ix_listK K) (@pv _ 1 _ _ (by rfl) (by first | exact Or.inl rfl | exact Or.inr (Or.inl rfl) | exact Or.inr (Or.inr rfl)) (by decide) (by decide)) pe_int (fun _ _ => rfl)) (@pa_c _ _ _ _ _ (@pe_ix _ _ _ _ _ _ _ (ix_listK K) (@pv _ 1 _ _ (by rfl) (by first | exact Or.inl rfl | exact Or.inr (Or.inl rfl) | exact Or.inr (Or.inr rfl)) (by decide) (by decide)) pe_int (fun _ _ => rfl)) (@pa_c _ _ _ _ _ (@pe_ix _ _ _ _ _ _ _ (ix_listK K) (@pv _ 1 _ _ (by rfl) (by first | exact Or.inl rfl | exact Or.inr (Or.inl rfl) | exact Or.inr (Or.inr rfl)) (by decide) (by decide)) pe_int (fun _ _ => rfl)) (@pa_c _ _ _ _ _ pe_int (@pa_c _ _ _ _ _ (@pe_callTy _ _ _ _ _ _ _ _ _ (call_list_ofK K) (by exact rfl) T.n_list PyProof.Rows.Boot.«list» (@pa_c _ _ _ _ _ (@pe_ix _ _ _ _ _ _ _ (ix_listK K) (@pv _ 0 _ _ (by rfl) (by first | exact Or.inl rfl | exact Or.inr (Or.inl rfl) | exact Or.inr (Or.inr rfl)) (by decide) (by decide)) pe_int (fun _ _ => rfl)) pa_nil (by rfl)) (by decide) (by decide) (by rfl) (by rfl)) pa_nil (by rfl)) (by rfl)) (by rfl)) (by rfl)) (by rfl)) (by rfl)) (by rfl) (by decide) (by rfl) (by rfl))))), ?_⟩
    have hnu := C1.nu
    have hca := C1.ca
    refine ⟨_, rfl, a, _, 2, _, rfl, rfl, .of hca, atI_nat (j := 2) rfl, ?_⟩
    refine ⟨_, rfl, m, _, 0, _, rfl, rfl, .of hnu, atI_nat (j := 0) rfl, _, rfl, m, _, 1, _, rfl, rfl, .of hnu, atI_nat (j := 1) rfl, _, rfl, m, _, 2, _, rfl, rfl, .of hnu, atI_nat (j := 2) rfl, _, rfl, m, _, 3, _, rfl, rfl, .of hnu, atI_nat (j := 3) rfl, _, rfl, a, _, 3, _, rfl, rfl, .of hca, atI_nat (j := 3) rfl, l, us, rfl, .inl (.of C1.ne), fun h hh => fun x dx hx hdx hne => ?_⟩
    have s5 : Same (upd H h (.lst us)) (upd (upd (upd H h (.lst us)) dx (.own x)) x (.ins C_Terms dx [])) := (Same.upd hdx).upd2 hx
    have s4 : Same H (upd H h (.lst us)) := Same.upd hh
    refine ⟨x, dx, ⟨c.same, c.out, c.into, c.least, 50⟩, .ref h, us, c.fs, rfl, upd_same, by rw [upd_ne hne]; exact upd_same, .inr ⟨h, rfl, s5 _ _ upd_same, C1.tr.same (s4.trans s5)⟩, good_short ok.good, ?_⟩
    have ok1 : okNums ⟨c.same, c.out, c.into, c.least, 50⟩ = true := by
      have := ok.same
      have := ok.out
      have := ok.into
      have := ok.least
      simp [okNums, inR]
      omega
    rw [if_pos ok1, if_pos ok.good]
    intro H6 l2 d sb T6 hl6 hd6
    exact ⟨rfl, q H6 x (s4.trans (SameBut.of_new hx hdx sb)) ⟨_, dx, l2, d, us, T6, rfl, rfl, rfl, rfl⟩⟩
theorem sc__law_is_way : FnScope ["_law_case_here", "_law_way", "_law_k", "_law_i", "_law_j"] ["_law_case_here", "_law_way"] (defScope s__law_is_way) := ⟨rfl, rfl, rfl, by decide +kernel, rfl, by decide +kernel, by decide +kernel⟩
theorem ok__law_is_way {f : Addr} {fd : FuncData} (F : Fun K "_law_is_way" "_law_is_way" s__law_is_way f fd) (T : TB mg) (D__law_pair : IsDef P w K mg base true 1 "_law_pair" ["_law_x", "_law_y", "_law_same", "_law_near_here"] sp_lpair) : FnOk P w K mg base (CXF P w) true 2 f fd ["_law_case_here", "_law_way"] sp_isway := by
  refine F.okX sc__law_is_way (fun vs H Q E h => ?_) (fun cdv A outer s H vs Q E hr h hX => ?_)
  · obtain ⟨a, w, c, f, g, m, l, us, ws, ps, rfl, _⟩ := h
    rfl
  · obtain ⟨a, w, c, x1, x2, m, l, us, ws, ps, rfl, C1, hw, P1, hlen, q⟩ := h
    have hu := hr.units
    have hu0 : (A.deeper (PyProof.Rows.envOfC "_law_is_way" (defScope s__law_is_way) s.heap.objs.size f cdv)).units < cLine := by omega
    have hul := P1.1
    have hca := C1.ca
    have hnu := C1.nu
    have lx : (c.xs.map V.str).length = c.xs.length := List.length_map ..
    have ly : (c.ys.map V.str).length = c.ys.length := List.length_map ..
    refine ⟨_, (@pss_cons _ _ _ _ _ (@ps_for _ _ _ _ _ _ _ _ hX.own (by exact rfl) (@pi_range1 _ _ _ _ _ _ (by exact rfl) T.n_range (@pa_c _ _ _ _ _ (@pe_callB _ _ _ _ _ _ _ _ _ (call_len_seqK K) (by exact rfl) T.n_len PyProof.Rows.Boot.«len» (@pa_c _ _ _ _ _ (@pv _ 1 _ _ (by rfl) (by first | exact Or.inl rfl | exact Or.inr (Or.inl rfl) | exact Or.inr (Or.inr rfl)) (by decide) (by decide)) pa_nil (by rfl)) (by decide) (by decide) (by rfl) (by rfl)) pa_nil (by rfl)) (by rfl)) (@pg_name _ _ (2) _ sc__law_is_way.nd (by exact rfl) (Or.inl rfl) (by first | exact .inl rfl | exact .inr rfl | assumption)) (@pss_cons _ _ _ _ _ (@ps_asg _ _ _ _ _ _ (@pe_ix _ _ _ _ _ _ _ (ix_listK K) (@pv _ 1 _ _ (by rfl) (by first | exact Or.inl rfl | exact Or.inr (Or.inl rfl) | exact Or.inr (Or.inr rfl)) (by decide) (by decide)) (@pv _ 2 _ _ (by rfl) (by first | exact Or.inl rfl | exact Or.inr (Or.inl rfl) | exact Or.inr (Or.inr rfl)) (by decide) (by decide)) (fun _ _ => rfl)) (@pg_tupK _ K _ _ _ (2) _ (by exact rfl) (@pgs_cons _ _ _ _ _ (@pg_name _ _ (3) _ sc__law_is_way.nd (by exact rfl) (Or.inl rfl) (by first | exact .inl rfl | exact .inr rfl | assumption)) (@pgs_cons _ _ _ _ _ (@pg_name _ _ (4) _ sc__law_is_way.nd (by exact rfl) (Or.inl rfl) (by first | exact .inl rfl | exact .inr rfl | assumption)) pgs_nil (by rfl)) (by rfl)) (by rfl) (by rfl) (by rfl)) (by rfl) (by rfl) (by rfl)) (@pss_cons _ _ _ _ _ (@ps_if _ _ _ _ _ _ _ _ (@PW.pt _ _ _ (@pw_or _ _ _ _ _ _ _ (@pt_cmpR _ _ _ _ _ _ _ _ op_lt (@pv _ 3 _ _ (by rfl) (by first | exact Or.inl rfl | exact Or.inr (Or.inl rfl) | exact Or.inr (Or.inr rfl)) (by decide) (by decide)) pe_int (nomark _)) (@pw_or _ _ _ _ _ _ _ (@pt_cmpR _ _ _ _ _ _ _ _ op_lt (@pv _ 4 _ _ (by rfl) (by first | exact Or.inl rfl | exact Or.inr (Or.inl rfl) | exact Or.inr (Or.inr rfl)) (by decide) (by decide)) pe_int (nomark _)) (@pw_or _ _ _ _ _ _ _ (@pt_cmpR _ _ _ _ _ _ _ _ op_ge (@pv _ 3 _ _ (by rfl) (by first | exact Or.inl rfl | exact Or.inr (Or.inl rfl) | exact Or.inr (Or.inr rfl)) (by decide) (by decide)) (@pe_callB _ _ _ _ _ _ _ _ _ (call_len_seqK K) (by exact rfl) T.n_len PyProof.Rows.Boot.«len» (@pa_c _ _ _ _ _ (@pe_ix _ _ _ _ _ _ _ (ix_listK K) (@pv _ 0 _ _ (by rfl) (by first | exact Or.inl rfl | exact Or.inr (Or.inl rfl) | exact Or.inr (Or.inr rfl)) (by decide) (by decide)) pe_int (fun _ _ => rfl)) pa_nil (by rfl)) (by decide) (by decide) (by rfl) (by rfl)) (nomark _)) (@pw_or1 _ _ _ _ (@pt_cmpR _ _ _ _ _ _ _ _ op_ge (@pv _ 4 _ _ (by rfl) (by first | exact Or.inl rfl | exact Or.inr (Or.inl rfl) | exact Or.inr (Or.inr rfl)) (by decide) (by decide)) (@pe_callB _ _ _ _ _ _ _ _ _ (call_len_seqK K) (by exact rfl) T.n_len PyProof.Rows.Boot.«len» (@pa_c _ _ _ _ _ (@pe_ix _ _ _ _ _ _ _ (ix_listK K) (@pv _ 0 _ _ (by rfl) (by first | exact Or.inl rfl | exact Or.inr (Or.inl rfl) | exact Or.inr (Or.inr rfl)) (by decide) (by decide)) pe_int (fun _ _ => rfl)) pa_nil (by rfl)) (by decide) (by decide) (by rfl) (by rfl)) (nomark _))))))) (@pss_one _ _ _ (@ps_ret _ _ _ _ pe_bl)) pss_nil) (@pss_cons _ _ _ _ _ (@ps_if _ _ _ _ _ _ _ _ (@pt_cmp _ _ _ _ _ _ (@pc_isN _ _ _ _ _ (@pe_def _ _ _ _ _ _ _ _ _ _ _ _ D__law_pair (hr.mono (by decide)) passF (@pa_c _ _ _ _ _ (@pe_ix _ _ _ _ _ _ _ (ix_listK K) (@pe_ix _ _ _ _ _ _ _ (ix_listK K) (@pv _ 0 _ _ (by rfl) (by first | exact Or.inl rfl | exact Or.inr (Or.inl rfl) | exact Or.inr (Or.inr rfl)) (by decide) (by decide)) pe_int (fun _ _ => rfl)) (@pv _ 3 _ _ (by rfl) (by first | exact Or.inl rfl | exact Or.inr (Or.inl rfl) | exact Or.inr (Or.inr rfl)) (by decide) (by decide)) (fun _ _ => rfl)) (@pa_c _ _ _ _ _ (@pe_ix _ _ _ _ _ _ _ (ix_listK K) (@pe_ix _ _ _ _ _ _ _ (ix_listK K) (@pv _ 0 _ _ (by rfl) (by first | exact Or.inl rfl | exact Or.inr (Or.inl rfl) | exact Or.inr (Or.inr rfl)) (by decide) (by decide)) pe_int (fun _ _ => rfl)) (@pv _ 4 _ _ (by rfl) (by first | exact Or.inl rfl | exact Or.inr (Or.inl rfl) | exact Or.inr (Or.inr rfl)) (by decide) (by decide)) (fun _ _ => rfl)) (@pa_c _ _ _ _ _ (@pe_ix _ _ _ _ _ _ _ (ix_listK K) (@pe_ix _ _ _ _ _ _ _ (ix_listK K) (@pv _ 0 _ _ (by rfl) (by first | exact Or.inl rfl | exact Or.inr (Or.inl rfl) | exact Or.inr (Or.inr rfl)) (by decide) (by decide)) pe_int (fun _ _ => rfl)) pe_int (fun _ _ => rfl)) (@pa_c _ _ _ _ _ (@pe_ix _ _ _ _ _ _ _ (ix_listK K) (@pv _ 0 _ _ (by rfl) (by first | exact Or.inl rfl | exact Or.inr (Or.inl rfl) | exact Or.inr (Or.inr rfl)) (by decide) (by decide)) pe_int (fun _ _ => rfl)) pa_nil (by rfl)) (by rfl)) (by rfl)) (by rfl)) (by rfl) (by decide) (by rfl) (by rfl))) (by first | exact nobehind _ (by decide) (by decide) | rfl)) (@pss_one _ _ _ (@ps_ret _ _ _ _ pe_bl)) pss_nil) (@pss_one _ _ _ (@ps_if _ _ _ _ _ _ _ _ (@PW.pt _ _ _ (@pw_and _ _ _ _ _ _ _ (@pt_cmpR _ _ _ _ _ _ _ _ op_gt (@pv _ 2 _ _ (by rfl) (by first | exact Or.inl rfl | exact Or.inr (Or.inl rfl) | exact Or.inr (Or.inr rfl)) (by decide) (by decide)) pe_int (nomark _)) (@pw_and1 _ _ _ _ (@PW.pt _ _ _ (@pw_or _ _ _ _ _ _ _ (@pt_cmpR _ _ _ _ _ _ _ _ op_le (@pv _ 3 _ _ (by rfl) (by first | exact Or.inl rfl | exact Or.inr (Or.inl rfl) | exact Or.inr (Or.inr rfl)) (by decide) (by decide)) (@pe_ix _ _ _ _ _ _ _ (ix_tupK K) (@pe_ix _ _ _ _ _ _ _ (ix_listK K) (@pv _ 1 _ _ (by rfl) (by first | exact Or.inl rfl | exact Or.inr (Or.inl rfl) | exact Or.inr (Or.inr rfl)) (by decide) (by decide)) (@pe_op _ _ _ _ _ _ _ _ op_sub (@pv _ 2 _ _ (by rfl) (by first | exact Or.inl rfl | exact Or.inr (Or.inl rfl) | exact Or.inr (Or.inr rfl)) (by decide) (by decide)) pe_int) (fun _ _ => rfl)) pe_int (fun _ _ => rfl)) (nomark _)) (@pw_or1 _ _ _ _ (@pt_cmpR _ _ _ _ _ _ _ _ op_le (@pv _ 4 _ _ (by rfl) (by first | exact Or.inl rfl | exact Or.inr (Or.inl rfl) | exact Or.inr (Or.inr rfl)) (by decide) (by decide)) (@pe_ix _ _ _ _ _ _ _ (ix_tupK K) (@pe_ix _ _ _ _ _ _ _ (ix_listK K) (@pv _ 1 _ _ (by rfl) (by first | exact Or.inl rfl | exact Or.inr (Or.inl rfl) | exact Or.inr (Or.inr rfl)) (by decide) (by decide)) (@pe_op _ _ _ _ _ _ _ _ op_sub (@pv _ 2 _ _ (by rfl) (by first | exact Or.inl rfl | exact Or.inr (Or.inl rfl) | exact Or.inr (Or.inr rfl)) (by decide) (by decide)) pe_int) (fun _ _ => rfl)) pe_int (fun _ _ => rfl)) (nomark _)))))))) (@pss_one _ _ _ (@ps_ret _ _ _ _ pe_bl)) pss_nil))))) (by intro _; rfl)) (@pss_one _ _ _ (@ps_ret _ _ _ _ (@pe_cmpR _ _ _ _ _ _ _ _ (op_ne_nilK K hu0) (@pv _ 1 _ _ (by rfl) (by first | exact Or.inl rfl | exact Or.inr (Or.inl rfl) | exact Or.inr (Or.inr rfl)) (by decide) (by decide)) (@pe_lst _ _ _ _ pa_nil) (nomark _))))), ?_⟩
    refine ⟨_, rfl, w, _, rfl, .inl (.of hw), (ws.length : Int), rfl, by omega, by omega, ?_⟩
    refine for_range (fun i σ H' => (∃ (u1 u2 u3 : Option V), σ = [some (.ref a), some (.ref w), u1, u2, u3]) ∧ H' = H ∧ goodTo c ps i) ⟨⟨_, _, _, rfl⟩, rfl, fun k hk => by omega⟩ ?_ ?_
    · rintro i σ H' hi ⟨⟨u1, u2, u3, rfl⟩, e0, hgo⟩
      subst e0
      have hi : i < ps.length := by omega
      obtain ⟨tt, ht1, ht2⟩ := P1.atN hi
      have bad : goodAt c ps i = false → Q (.bl false) H' := fun e => by
        have := q H' (.refl _)
        rw [isWay_no hi e] at this
        exact this
      have badP : c.pw (pr ps i) = none → Q (.bl false) H' := fun e => bad (by simp [goodAt, e])
      refine ⟨_, rfl, _, rfl, w, _, _, _, rfl, rfl, .of hw, at0 ht1, tt, _, rfl, .of ht2, rfl, _, _, rfl, _, _, rfl, rfl, ?_⟩
      refine ⟨_, rfl, _, _, rfl, rfl, _, rfl, ?_⟩
      refine ite2 (fun h1 => ?_) (fun h1 => ?_)
      · have h1 : (pr ps i).1 < 0 := by simpa using h1
        refine iteT ?_
        exact badP (Case.pw_out (by omega))
      have h1 : ¬ (pr ps i).1 < 0 := by simpa using h1
      refine ⟨_, rfl, _, _, rfl, rfl, _, rfl, ?_⟩
      refine ite2 (fun h2 => ?_) (fun h2 => ?_)
      · have h2 : (pr ps i).2 < 0 := by simpa using h2
        refine iteT ?_
        exact badP (Case.pw_out (by omega))
      have h2 : ¬ (pr ps i).2 < 0 := by simpa using h2
      refine ⟨_, rfl, _, rfl, a, _, 0, _, rfl, rfl, .of hca, atI_nat (j := 0) rfl, x1, _, rfl, .inl (.of C1.fi), _, _, rfl, rfl, _, rfl, ?_⟩
      rw [lx]
      refine ite2 (fun h3 => ?_) (fun h3 => ?_)
      · have h3 : (c.xs.length : Int) ≤ (pr ps i).1 := by simpa using h3
        refine iteT ?_
        exact badP (Case.pw_out (by omega))
      have h3 : ¬ (c.xs.length : Int) ≤ (pr ps i).1 := by simpa using h3
      refine ⟨_, rfl, _, rfl, a, _, 1, _, rfl, rfl, .of hca, atI_nat (j := 1) rfl, x2, _, rfl, .inl (.of C1.se), _, _, rfl, rfl, _, rfl, ?_⟩
      rw [ly]
      refine ite2 (fun h4 => ?_) (fun h4 => ?_)
      · have h4 : (c.ys.length : Int) ≤ (pr ps i).2 := by simpa using h4
        exact badP (Case.pw_out (by omega))
      have h4 : ¬ (c.ys.length : Int) ≤ (pr ps i).2 := by simpa using h4
      obtain ⟨x, hx1, hx2⟩ := wd_in (xs := c.xs) (i := (pr ps i).1) (by omega) (by omega)
      obtain ⟨y, hy1, hy2⟩ := wd_in (xs := c.ys) (i := (pr ps i).2) (by omega) (by omega)
      have ep : c.pw (pr ps i) = pairW c.same c.fs x y := Case.pw_of hx1 hy1
      refine ⟨_, rfl, a, _, 0, _, rfl, rfl, .of hca, atI_nat (j := 0) rfl, _, rfl, x1, _, _, _, rfl, rfl, .of C1.fi, hx2, _, rfl, a, _, 1, _, rfl, rfl, .of hca, atI_nat (j := 1) rfl, _, rfl, x2, _, _, _, rfl, rfl, .of C1.se, hy2, _, rfl, a, _, 2, _, rfl, rfl, .of hca, atI_nat (j := 2) rfl, m, _, 0, _, rfl, rfl, .of hnu, atI_nat (j := 0) rfl, _, rfl, a, _, 3, _, rfl, rfl, .of hca, atI_nat (j := 3) rfl, x, y, c.same, l, us, c.fs, rfl, C1.ne, C1.tr, _, rfl, ?_⟩
      rw [← ep]
      refine ite2 (fun h5 => ?_) (fun h5 => ?_)
      · refine badP ?_
        cases e : c.pw (pr ps i) with
        | none => rfl
        | some v => rw [e] at h5; simp [optV] at h5
      have h5 : (c.pw (pr ps i)).isSome = true := by
        cases e : c.pw (pr ps i) with
        | none => rw [e] at h5; simp [optV] at h5
        | some v => rfl
      refine ⟨_, rfl, _, _, rfl, rfl, _, rfl, ?_⟩
      refine ite2 (fun h6 => ?_) (fun h6 => ?_)
      rotate_left
      · have h6 : i = 0 := by
          have : ¬ (0 : Int) < 0 + (i : Int) := by simpa using h6
          omega
        refine iteF ?_
        exact ⟨⟨_, _, _, rfl⟩, rfl, hgo.next (by simp [goodAt, h5, h6] at h5 ⊢; exact h5)⟩
      have h6 : 0 < i := by
        have : (0 : Int) < 0 + (i : Int) := by simpa using h6
        omega
      obtain ⟨j, rfl⟩ : ∃ j, i = j + 1 := ⟨i - 1, by omega⟩
      have e1 : ((0 + ((j + 1 : Nat) : Int)) - 1) = ((j : Nat) : Int) := by omega
      obtain ⟨t2, hq1, hq2⟩ := P1.atN (show j < ps.length by omega)
      have hat : atI ws ((0 + ((j + 1 : Nat) : Int)) - 1) = some (.ref t2) := by rw [e1]; exact atI_nat hq1
      refine ⟨_, rfl, _, rfl, _, rfl, _, _, rfl, rfl, w, _, _, _, rfl, rfl, .of hw, hat, t2, _, 0, _, rfl, rfl, .of hq2, atI_nat (j := 0) rfl, _, _, rfl, rfl, _, rfl, ?_⟩
      refine ite2 (fun h7 => ?_) (fun h7 => ?_)
      · have h7 : (pr ps (j + 1)).1 ≤ (pr ps j).1 := by simpa using h7
        refine iteT ?_
        refine bad ?_
        have : stepOk (pr ps j) (pr ps (j + 1)) = false := by simp [stepOk]; omega
        simp [goodAt, this]
      have h7 : ¬ (pr ps (j + 1)).1 ≤ (pr ps j).1 := by simpa using h7
      refine ⟨_, rfl, _, rfl, _, rfl, _, _, rfl, rfl, w, _, _, _, rfl, rfl, .of hw, hat, t2, _, 1, _, rfl, rfl, .of hq2, atI_nat (j := 1) rfl, _, _, rfl, rfl, _, rfl, ?_⟩
      refine ite2 (fun h8 => ?_) (fun h8 => ?_)
      · have h8 : (pr ps (j + 1)).2 ≤ (pr ps j).2 := by simpa using h8
        refine bad ?_
        have : stepOk (pr ps j) (pr ps (j + 1)) = false := by simp [stepOk]; omega
        simp [goodAt, this]
      have h8 : ¬ (pr ps (j + 1)).2 ≤ (pr ps j).2 := by simpa using h8
      refine ⟨⟨_, _, _, rfl⟩, rfl, hgo.next ?_⟩
      have : stepOk (pr ps j) (pr ps (j + 1)) = true := by simp [stepOk]; omega
      simp [goodAt, h5, this]
    · rintro σ H' ⟨⟨u1, u2, u3, rfl⟩, e0, hgo⟩
      subst e0
      have e : ((ws.length : Nat) : Int).toNat = ps.length := by omega
      rw [e] at hgo
      refine ⟨_, rfl, le_line (by simp), fun pn hpn => ⟨w, pn, _, rfl, rfl, .of (Same.upd hpn _ _ hw), .of upd_same, ?_⟩⟩
      have hq := q _ (Same.upd (o := .lst []) hpn)
      by_cases hz : ps = []
      · subst hz
        have : ws = [] := List.length_eq_zero_iff.mp hul
        subst this
        exact hq
      · rw [isWay_yes hz hgo] at hq
        have : ws ≠ [] := fun z => hz (by subst z; exact List.length_eq_zero_iff.mp hul.symm)
        have : (!ws.isEmpty) = true := by simpa using this
        rw [this]
        exact hq
theorem sc__law_spoiled : FnScope ["_law_case_here", "_law_way", "_law_pick", "_law_cell", "_law_pair_here", "_law_spot", "_law_other", "_law_made"] ["_law_case_here", "_law_way", "_law_pick", "_law_cell"] (defScope s__law_spoiled) := ⟨rfl, rfl, rfl, by decide +kernel, rfl, by decide +kernel, by decide +kernel⟩
theorem ok__law_spoiled {f : Addr} {fd : FuncData} (F : Fun K "_law_spoiled" "_law_spoiled" s__law_spoiled f fd) (T : TB mg) : FnOk P w K mg base (CXF P w) true 1 f fd ["_law_case_here", "_law_way", "_law_pick", "_law_cell"] sp_lspoiled := by
  refine F.okX sc__law_spoiled (fun vs H Q E h => ?_) (fun cdv A outer s H vs Q E hr h hX => ?_)
  · obtain ⟨a, w, c, x1, x2, m, l, us, ws, ps, pick, k, rfl, _⟩ := h
    rfl
  · obtain ⟨a, w, c, x1, x2, m, l, us, ws, ps, pick, k, rfl, C1, hw, P1, hlen, q⟩ := h
    have hu := hr.units
    have hu0 : (A.deeper (PyProof.Rows.envOfC "_law_spoiled" (defScope s__law_spoiled) s.heap.objs.size f cdv)).units < cLine := by omega
    have hca := C1.ca
    have hul := P1.1
    have c8 : (0 : Int) < 8 := by decide
    refine ⟨_, (@pss_cut _ _ _ _ _ (@ps_set _ _ (4) _ _ _ _ sc__law_spoiled.nd (by exact rfl) (Or.inl rfl) (@pe_tup _ _ _ _ _ (@pa_c _ _ _ _ _ (@pe_op _ _ _ _ _ _ _ _ op_sub (@pe_op _ _ _ _ _ _ _ _ op_mod (@pv _ 3 _ _ (by rfl) (by first | exact Or.inl rfl | exact Or.inr (Or.inl rfl) | exact Or.inr (Or.inr rfl)) (by decide) (by decide)) (@pe_op _ _ _ _ _ _ _ _ op_add (@pe_callB _ _ _ _ _ _ _ _ _ (call_len_seqK K) (by exact rfl) T.n_len PyProof.Rows.Boot.«len» (@pa_c _ _ _ _ _ (@pe_ix _ _ _ _ _ _ _ (ix_listK K) (@pv _ 0 _ _ (by rfl) (by first | exact Or.inl rfl | exact Or.inr (Or.inl rfl) | exact Or.inr (Or.inr rfl)) (by decide) (by decide)) pe_int (fun _ _ => rfl)) pa_nil (by rfl)) (by decide) (by decide) (by rfl) (by rfl)) pe_int)) pe_int) (@pa_c _ _ _ _ _ (@pe_op _ _ _ _ _ _ _ _ op_sub (@pe_op _ _ _ _ _ _ _ _ op_mod (@pe_op _ _ _ _ _ _ _ _ op_fdiv (@pv _ 3 _ _ (by rfl) (by first | exact Or.inl rfl | exact Or.inr (Or.inl rfl) | exact Or.inr (Or.inr rfl)) (by decide) (by decide)) pe_int) (@pe_op _ _ _ _ _ _ _ _ op_add (@pe_callB _ _ _ _ _ _ _ _ _ (call_len_seqK K) (by exact rfl) T.n_len PyProof.Rows.Boot.«len» (@pa_c _ _ _ _ _ (@pe_ix _ _ _ _ _ _ _ (ix_listK K) (@pv _ 0 _ _ (by rfl) (by first | exact Or.inl rfl | exact Or.inr (Or.inl rfl) | exact Or.inr (Or.inr rfl)) (by decide) (by decide)) pe_int (fun _ _ => rfl)) pa_nil (by rfl)) (by decide) (by decide) (by rfl) (by rfl)) pe_int)) pe_int) pa_nil (by rfl)) (by rfl))) (by rfl) (by first | exact .inl rfl | exact .inr rfl | assumption)) (@pss_cut _ _ _ _ _ (@ps_if _ _ _ _ _ _ _ _ (@pt_cmpR _ _ _ _ _ _ _ _ (op_eq_listK K hu0) (@pv _ 1 _ _ (by rfl) (by first | exact Or.inl rfl | exact Or.inr (Or.inl rfl) | exact Or.inr (Or.inr rfl)) (by decide) (by decide)) (@pe_lst _ _ _ _ pa_nil) (nomark _)) (@pss_one _ _ _ (@ps_ret _ _ _ _ (@pe_lst _ _ _ _ (@pa_c _ _ _ _ _ (@pv _ 4 _ _ (by rfl) (by first | exact Or.inl rfl | exact Or.inr (Or.inl rfl) | exact Or.inr (Or.inr rfl)) (by decide) (by decide)) pa_nil (by rfl))))) pss_nil) (@pss_cut _ _ _ _ _ (@ps_set _ _ (5) _ _ _ _ sc__law_spoiled.nd (by exact rfl) (Or.inl rfl) (@pe_op _ _ _ _ _ _ _ _ op_mod (@pe_op _ _ _ _ _ _ _ _ op_fdiv (@pv _ 2 _ _ (by rfl) (by first | exact Or.inl rfl | exact Or.inr (Or.inl rfl) | exact Or.inr (Or.inr rfl)) (by decide) (by decide)) pe_int) (@pe_callB _ _ _ _ _ _ _ _ _ (call_len_seqK K) (by exact rfl) T.n_len PyProof.Rows.Boot.«len» (@pa_c _ _ _ _ _ (@pv _ 1 _ _ (by rfl) (by first | exact Or.inl rfl | exact Or.inr (Or.inl rfl) | exact Or.inr (Or.inr rfl)) (by decide) (by decide)) pa_nil (by rfl)) (by decide) (by decide) (by rfl) (by rfl))) (by rfl) (by first | exact .inl rfl | exact .inr rfl | assumption)) (@pss_cut _ _ _ _ _ (@ps_set _ _ (6) _ _ _ _ sc__law_spoiled.nd (by exact rfl) (Or.inl rfl) (@pe_op _ _ _ _ _ _ _ _ op_mod (@pe_op _ _ _ _ _ _ _ _ op_fdiv (@pv _ 2 _ _ (by rfl) (by first | exact Or.inl rfl | exact Or.inr (Or.inl rfl) | exact Or.inr (Or.inr rfl)) (by decide) (by decide)) pe_int) (@pe_callB _ _ _ _ _ _ _ _ _ (call_len_seqK K) (by exact rfl) T.n_len PyProof.Rows.Boot.«len» (@pa_c _ _ _ _ _ (@pv _ 1 _ _ (by rfl) (by first | exact Or.inl rfl | exact Or.inr (Or.inl rfl) | exact Or.inr (Or.inr rfl)) (by decide) (by decide)) pa_nil (by rfl)) (by decide) (by decide) (by rfl) (by rfl))) (by rfl) (by first | exact .inl rfl | exact .inr rfl | assumption)) (@pss_cut _ _ _ _ _ (@ps_set _ _ (7) _ _ _ _ sc__law_spoiled.nd (by exact rfl) (Or.inl rfl) (@pe_callTy _ _ _ _ _ _ _ _ _ (call_list_ofK K) (by exact rfl) T.n_list PyProof.Rows.Boot.«list» (@pa_c _ _ _ _ _ (@pv _ 1 _ _ (by rfl) (by first | exact Or.inl rfl | exact Or.inr (Or.inl rfl) | exact Or.inr (Or.inr rfl)) (by decide) (by decide)) pa_nil (by rfl)) (by decide) (by decide) (by rfl) (by rfl)) (by rfl) (by first | exact .inl rfl | exact .inr rfl | assumption)) (@pss_cut _ _ _ _ _ (@ps_if _ _ _ _ _ _ _ _ (@pt_cmpR _ _ _ _ _ _ _ _ op_eq (@pe_op _ _ _ _ _ _ _ _ op_mod (@pv _ 2 _ _ (by rfl) (by first | exact Or.inl rfl | exact Or.inr (Or.inl rfl) | exact Or.inr (Or.inr rfl)) (by decide) (by decide)) pe_int) pe_int (nomark _)) (@pss_one _ _ _ (@ps_expr _ _ _ _ (@pe_bmK _ K _ _ _ _ _ _ _ _ _ _ _ PySem.F.plainAttrs_list PySem.F.slot_list_insert PySem.F.type_list_insert mt_insert (@pv _ 7 _ _ (by rfl) (by first | exact Or.inl rfl | exact Or.inr (Or.inl rfl) | exact Or.inr (Or.inr rfl)) (by decide) (by decide)) (@pa_c _ _ _ _ _ (@pe_op _ _ _ _ _ _ _ _ op_add (@pv _ 5 _ _ (by rfl) (by first | exact Or.inl rfl | exact Or.inr (Or.inl rfl) | exact Or.inr (Or.inr rfl)) (by decide) (by decide)) pe_int) (@pa_c _ _ _ _ _ (@pe_tup _ _ _ _ _ (@pa_c _ _ _ _ _ (@pe_op _ _ _ _ _ _ _ _ op_add (@pe_ix _ _ _ _ _ _ _ (ix_tupK K) (@pe_ix _ _ _ _ _ _ _ (ix_listK K) (@pv _ 1 _ _ (by rfl) (by first | exact Or.inl rfl | exact Or.inr (Or.inl rfl) | exact Or.inr (Or.inr rfl)) (by decide) (by decide)) (@pv _ 5 _ _ (by rfl) (by first | exact Or.inl rfl | exact Or.inr (Or.inl rfl) | exact Or.inr (Or.inr rfl)) (by decide) (by decide)) (fun _ _ => rfl)) pe_int (fun _ _ => rfl)) pe_int) (@pa_c _ _ _ _ _ (@pe_ix _ _ _ _ _ _ _ (ix_tupK K) (@pe_ix _ _ _ _ _ _ _ (ix_listK K) (@pv _ 1 _ _ (by rfl) (by first | exact Or.inl rfl | exact Or.inr (Or.inl rfl) | exact Or.inr (Or.inr rfl)) (by decide) (by decide)) (@pv _ 5 _ _ (by rfl) (by first | exact Or.inl rfl | exact Or.inr (Or.inl rfl) | exact Or.inr (Or.inr rfl)) (by decide) (by decide)) (fun _ _ => rfl)) pe_int (fun _ _ => rfl)) pa_nil (by rfl)) (by rfl))) pa_nil (by rfl)) (by rfl)) (by rfl) (by rfl) (by rfl) (by rfl) (by rfl) (by rfl)) (by rfl))) pss_nil) (@pss_cut _ _ _ _ _ (@ps_if _ _ _ _ _ _ _ _ (@pt_cmpR _ _ _ _ _ _ _ _ op_eq (@pe_op _ _ _ _ _ _ _ _ op_mod (@pv _ 2 _ _ (by rfl) (by first | exact Or.inl rfl | exact Or.inr (Or.inl rfl) | exact Or.inr (Or.inr rfl)) (by decide) (by decide)) pe_int) pe_int (nomark _)) (@pss_one _ _ _ (@ps_expr _ _ _ _ (@pe_bmK _ K _ _ _ _ _ _ _ _ _ _ _ PySem.F.plainAttrs_list PySem.F.slot_list_insert PySem.F.type_list_insert mt_insert (@pv _ 7 _ _ (by rfl) (by first | exact Or.inl rfl | exact Or.inr (Or.inl rfl) | exact Or.inr (Or.inr rfl)) (by decide) (by decide)) (@pa_c _ _ _ _ _ (@pe_op _ _ _ _ _ _ _ _ op_add (@pv _ 5 _ _ (by rfl) (by first | exact Or.inl rfl | exact Or.inr (Or.inl rfl) | exact Or.inr (Or.inr rfl)) (by decide) (by decide)) pe_int) (@pa_c _ _ _ _ _ (@pe_tup _ _ _ _ _ (@pa_c _ _ _ _ _ (@pe_ix _ _ _ _ _ _ _ (ix_tupK K) (@pe_ix _ _ _ _ _ _ _ (ix_listK K) (@pv _ 1 _ _ (by rfl) (by first | exact Or.inl rfl | exact Or.inr (Or.inl rfl) | exact Or.inr (Or.inr rfl)) (by decide) (by decide)) (@pv _ 5 _ _ (by rfl) (by first | exact Or.inl rfl | exact Or.inr (Or.inl rfl) | exact Or.inr (Or.inr rfl)) (by decide) (by decide)) (fun _ _ => rfl)) pe_int (fun _ _ => rfl)) (@pa_c _ _ _ _ _ (@pe_op _ _ _ _ _ _ _ _ op_add (@pe_ix _ _ _ _ _ _ _ (ix_tupK K) (@pe_ix _ _ _ _ _ _ _ (ix_listK K) (@pv _ 1 _ _ (by rfl) (by first | exact Or.inl rfl | exact Or.inr (Or.inl rfl) | exact Or.inr (Or.inr rfl)) (by decide) (by decide)) (@pv _ 5 _ _ (by rfl) (by first | exact Or.inl rfl | exact Or.inr (Or.inl rfl) | exact Or.inr (Or.inr rfl)) (by decide) (by decide)) (fun _ _ => rfl)) pe_int (fun _ _ => rfl)) pe_int) pa_nil (by rfl)) (by rfl))) pa_nil (by rfl)) (by rfl)) (by rfl) (by rfl) (by rfl) (by rfl) (by rfl) (by rfl)) (by rfl))) pss_nil) (@pss_cut _ _ _ _ _ (@ps_if _ _ _ _ _ _ _ _ (@pt_cmpR _ _ _ _ _ _ _ _ op_eq (@pe_op _ _ _ _ _ _ _ _ op_mod (@pv _ 2 _ _ (by rfl) (by first | exact Or.inl rfl | exact Or.inr (Or.inl rfl) | exact Or.inr (Or.inr rfl)) (by decide) (by decide)) pe_int) pe_int (nomark _)) (@pss_one _ _ _ (@ps_asg _ _ _ _ _ _ (@pv _ 4 _ _ (by rfl) (by first | exact Or.inl rfl | exact Or.inr (Or.inl rfl) | exact Or.inr (Or.inr rfl)) (by decide) (by decide)) (@pg_sub _ _ _ _ _ _ _ (@pv _ 7 _ _ (by rfl) (by first | exact Or.inl rfl | exact Or.inr (Or.inl rfl) | exact Or.inr (Or.inr rfl)) (by decide) (by decide)) (@pv _ 5 _ _ (by rfl) (by first | exact Or.inl rfl | exact Or.inr (Or.inl rfl) | exact Or.inr (Or.inr rfl)) (by decide) (by decide)) set_list (by intro _; rfl)) (by rfl) (by rfl) (by rfl))) pss_nil) (@pss_cut _ _ _ _ _ (@ps_if _ _ _ _ _ _ _ _ (@pt_cmpR _ _ _ _ _ _ _ _ op_eq (@pe_op _ _ _ _ _ _ _ _ op_mod (@pv _ 2 _ _ (by rfl) (by first | exact Or.inl rfl | exact Or.inr (Or.inl rfl) | exact Or.inr (Or.inr rfl)) (by decide) (by decide)) pe_int) pe_int (nomark _)) (@pss_one _ _ _ (@ps_expr _ _ _ _ (@pe_bmK _ K _ _ _ _ _ _ _ _ _ _ _ PySem.F.plainAttrs_list PySem.F.slot_list_insert PySem.F.type_list_insert mt_insert (@pv _ 7 _ _ (by rfl) (by first | exact Or.inl rfl | exact Or.inr (Or.inl rfl) | exact Or.inr (Or.inr rfl)) (by decide) (by decide)) (@pa_c _ _ _ _ _ (@pv _ 5 _ _ (by rfl) (by first | exact Or.inl rfl | exact Or.inr (Or.inl rfl) | exact Or.inr (Or.inr rfl)) (by decide) (by decide)) (@pa_c _ _ _ _ _ (@pe_ix _ _ _ _ _ _ _ (ix_listK K) (@pv _ 7 _ _ (by rfl) (by first | exact Or.inl rfl | exact Or.inr (Or.inl rfl) | exact Or.inr (Or.inr rfl)) (by decide) (by decide)) (@pv _ 5 _ _ (by rfl) (by first | exact Or.inl rfl | exact Or.inr (Or.inl rfl) | exact Or.inr (Or.inr rfl)) (by decide) (by decide)) (fun _ _ => rfl)) pa_nil (by rfl)) (by rfl)) (by rfl) (by rfl) (by rfl) (by rfl) (by rfl) (by rfl)) (by rfl))) pss_nil) (@pss_cut _ _ _ _ _ (@ps_if _ _ _ _ _ _ _ _ (@pt_cmpR _ _ _ _ _ _ _ _ op_eq (@pe_op _ _ _ _ _ _ _ _ op_mod (@pv _ 2 _ _ (by rfl) (by first | exact Or.inl rfl | exact Or.inr (Or.inl rfl) | exact Or.inr (Or.inr rfl)) (by decide) (by decide)) pe_int) pe_int (nomark _)) (@pss_one _ _ _ (@ps_set _ _ (7) _ _ _ _ sc__law_spoiled.nd (by exact rfl) (Or.inl rfl) (@pe_op _ _ _ _ _ _ _ _ op_cat (@pe_slice _ _ _ _ _ _ _ _ _ _ (sl_listK K) (@pv _ 7 _ _ (by rfl) (by first | exact Or.inl rfl | exact Or.inr (Or.inl rfl) | exact Or.inr (Or.inr rfl)) (by decide) (by decide)) po_none (@po_some _ _ _ (@pv _ 5 _ _ (by rfl) (by first | exact Or.inl rfl | exact Or.inr (Or.inl rfl) | exact Or.inr (Or.inr rfl)) (by decide) (by decide)))) (@pe_slice _ _ _ _ _ _ _ _ _ _ (sl_listK K) (@pv _ 7 _ _ (by rfl) (by first | exact Or.inl rfl | exact Or.inr (Or.inl rfl) | exact Or.inr (Or.inr rfl)) (by decide) (by decide)) (@po_some _ _ _ (@pe_op _ _ _ _ _ _ _ _ op_add (@pv _ 5 _ _ (by rfl) (by first | exact Or.inl rfl | exact Or.inr (Or.inl rfl) | exact Or.inr (Or.inr rfl)) (by decide) (by decide)) pe_int)) po_none)) (by rfl) (by first | exact .inl rfl | exact .inr rfl | assumption))) pss_nil) (@pss_cut _ _ _ _ _ (@ps_if _ _ _ _ _ _ _ _ (@pt_cmpR _ _ _ _ _ _ _ _ op_eq (@pe_op _ _ _ _ _ _ _ _ op_mod (@pv _ 2 _ _ (by rfl) (by first | exact Or.inl rfl | exact Or.inr (Or.inl rfl) | exact Or.inr (Or.inr rfl)) (by decide) (by decide)) pe_int) pe_int (nomark _)) (@pss_cut _ _ _ _ _ (@ps_asg _ _ _ _ _ _ (@pe_ix _ _ _ _ _ _ _ (ix_listK K) (@pv _ 1 _ _ (by rfl) (by first | exact Or.inl rfl | exact Or.inr (Or.inl rfl) | exact Or.inr (Or.inr rfl)) (by decide) (by decide)) (@pv _ 6 _ _ (by rfl) (by first | exact Or.inl rfl | exact Or.inr (Or.inl rfl) | exact Or.inr (Or.inr rfl)) (by decide) (by decide)) (fun _ _ => rfl)) (@pg_sub _ _ _ _ _ _ _ (@pv _ 7 _ _ (by rfl) (by first | exact Or.inl rfl | exact Or.inr (Or.inl rfl) | exact Or.inr (Or.inr rfl)) (by decide) (by decide)) (@pv _ 5 _ _ (by rfl) (by first | exact Or.inl rfl | exact Or.inr (Or.inl rfl) | exact Or.inr (Or.inr rfl)) (by decide) (by decide)) set_list (by intro _; rfl)) (by rfl) (by rfl) (by rfl)) (@pss_one _ _ _ (@ps_asg _ _ _ _ _ _ (@pe_ix _ _ _ _ _ _ _ (ix_listK K) (@pv _ 1 _ _ (by rfl) (by first | exact Or.inl rfl | exact Or.inr (Or.inl rfl) | exact Or.inr (Or.inr rfl)) (by decide) (by decide)) (@pv _ 5 _ _ (by rfl) (by first | exact Or.inl rfl | exact Or.inr (Or.inl rfl) | exact Or.inr (Or.inr rfl)) (by decide) (by decide)) (fun _ _ => rfl)) (@pg_sub _ _ _ _ _ _ _ (@pv _ 7 _ _ (by rfl) (by first | exact Or.inl rfl | exact Or.inr (Or.inl rfl) | exact Or.inr (Or.inr rfl)) (by decide) (by decide)) (@pv _ 6 _ _ (by rfl) (by first | exact Or.inl rfl | exact Or.inr (Or.inl rfl) | exact Or.inr (Or.inr rfl)) (by decide) (by decide)) set_list (by intro _; rfl)) (by rfl) (by rfl) (by rfl)))) pss_nil) (@pss_cut _ _ _ _ _ (@ps_if _ _ _ _ _ _ _ _ (@pt_cmpR _ _ _ _ _ _ _ _ op_eq (@pe_op _ _ _ _ _ _ _ _ op_mod (@pv _ 2 _ _ (by rfl) (by first | exact Or.inl rfl | exact Or.inr (Or.inl rfl) | exact Or.inr (Or.inr rfl)) (by decide) (by decide)) pe_int) pe_int (nomark _)) (@pss_one _ _ _ (@ps_expr _ _ _ _ (@pe_bmK _ K _ _ _ _ _ _ _ _ _ _ _ PySem.F.plainAttrs_list PySem.F.slot_list_insert PySem.F.type_list_insert mt_insert (@pv _ 7 _ _ (by rfl) (by first | exact Or.inl rfl | exact Or.inr (Or.inl rfl) | exact Or.inr (Or.inr rfl)) (by decide) (by decide)) (@pa_c _ _ _ _ _ (@pv _ 5 _ _ (by rfl) (by first | exact Or.inl rfl | exact Or.inr (Or.inl rfl) | exact Or.inr (Or.inr rfl)) (by decide) (by decide)) (@pa_c _ _ _ _ _ (@pv _ 4 _ _ (by rfl) (by first | exact Or.inl rfl | exact Or.inr (Or.inl rfl) | exact Or.inr (Or.inr rfl)) (by decide) (by decide)) pa_nil (by rfl)) (by rfl)) (by rfl) (by rfl) (by rfl) (by rfl) (by rfl) (by rfl)) (by rfl))) pss_nil) (@pss_one _ _ _ (@ps_ret _ _ _ _ (@pv _ 7 _ _ (by rfl) (by first | exact Or.inl rfl | exact Or.inr (Or.inl rfl) | exact Or.inr (Or.inr rfl)) (by decide) (by decide)))))))))))))))), ?_⟩
    refine ⟨fun σ H1 => ∃ (p : Addr) (pp : Pr), σ = [some (.ref a), some (.ref w), some (.int pick), some (.int k), some (.ref p), none, none, none] ∧ Same H H1 ∧ H1 p = some (.tup (prV pp)), ?_, ?_⟩
    · exact ⟨_, rfl, _, rfl, a, _, 0, _, rfl, rfl, .of hca, atI_nat (j := 0) rfl, x1, _, rfl, .inl (.of C1.fi), _, _, rfl, rfl, _, _, rfl, rfl, (show (0 : Int) < _ by omega), _, _, rfl, rfl, _, rfl, _, _, rfl, rfl, ⟨by decide, by decide⟩, _, rfl, a, _, 1, _, rfl, rfl, .of hca, atI_nat (j := 1) rfl, x2, _, rfl, .inl (.of C1.se), _, _, rfl, rfl, _, _, rfl, rfl, (show (0 : Int) < _ by omega), _, _, rfl, rfl, le_line (by simp), fun p hp => ⟨p, (_, _), rfl, Same.upd hp, upd_same⟩⟩
    rintro σ H1 ⟨p, pp, rfl, s1, hp1⟩
    refine ⟨fun σ H2 => σ = [some (.ref a), some (.ref w), some (.int pick), some (.int k), some (.ref p), none, none, none] ∧ Same H H2 ∧ H2 p = some (.tup (prV pp)) ∧ ps ≠ [], ?_, ?_⟩
    · refine ⟨_, rfl, le_line (by simp), fun pn hpn => ⟨w, pn, ws, [], (fun _ => true), rfl, rfl, .of (Same.upd hpn _ _ (s1 _ _ hw)), .of upd_same, (fun j x y h1 h2 => by simp at h2), _, rfl, ?_⟩⟩
      have s2 : Same H1 (upd H1 pn (.lst [])) := Same.upd hpn
      have s3 := s1.trans s2
      refine ite2 (fun h1 => ?_) (fun h1 => ?_)
      · refine ⟨_, rfl, le_line (by simp), fun r hr1 => q _ r _ [pp] (s3.trans (Same.upd hr1)) upd_same (Prs.one ((Same.upd hr1) _ _ (s2 _ _ hp1))) (by simp)⟩
      · refine ⟨rfl, s3, s2 _ _ hp1, fun z => h1 ?_⟩
        have : ws = [] := List.length_eq_zero_iff.mp (by rw [hul, z]; rfl)
        rw [this]; rfl
    clear hp1 s1 H1
    rintro σ H1 ⟨rfl, s1, hp1, hne⟩
    have hpos : 0 < ps.length := List.length_pos_iff.mpr hne
    have hw1 := s1 _ _ hw
    have hwl : ((ws.length : Nat) : Int) = (ps.length : Int) := by omega
    refine ⟨fun σ H2 => ∃ sp : Nat, σ = [some (.ref a), some (.ref w), some (.int pick), some (.int k), some (.ref p), some (.int (sp : Int)), none, none] ∧ H2 = H1 ∧ sp < ps.length, ?_, ?_⟩
    · have z0 : 0 ≤ pick / 8 % (ws.length : Int) := Int.emod_nonneg _ (by omega)
      have z1 : pick / 8 % (ws.length : Int) < (ws.length : Int) := Int.emod_lt_of_pos _ (by omega)
      refine ⟨_, rfl, _, _, rfl, rfl, ⟨by decide, by decide⟩, _, rfl, w, _, rfl, .inl (.of hw1), _, _, rfl, rfl, (show (0 : Int) < (ws.length : Int) by omega), (pick / 8 % (ws.length : Int)).toNat, ?_, rfl, by omega⟩
      rw [Int.toNat_of_nonneg z0]; rfl
    rintro σ H1 ⟨sp, rfl, rfl, hsp⟩
    refine ⟨fun σ H2 => ∃ ot : Nat, σ = [some (.ref a), some (.ref w), some (.int pick), some (.int k), some (.ref p), some (.int (sp : Int)), some (.int (ot : Int)), none] ∧ H2 = H1 ∧ ot < ps.length, ?_, ?_⟩
    · have z0 : 0 ≤ pick / 80 % (ws.length : Int) := Int.emod_nonneg _ (by omega)
      have z1 : pick / 80 % (ws.length : Int) < (ws.length : Int) := Int.emod_lt_of_pos _ (by omega)
      refine ⟨_, rfl, _, _, rfl, rfl, ⟨by decide, by decide⟩, _, rfl, w, _, rfl, .inl (.of hw1), _, _, rfl, rfl, (show (0 : Int) < (ws.length : Int) by omega), (pick / 80 % (ws.length : Int)).toNat, ?_, rfl, by omega⟩
      rw [Int.toNat_of_nonneg z0]; rfl
    rintro σ H1 ⟨ot, rfl, rfl, hot⟩
    refine ⟨fun σ H2 => ∃ b, σ = [some (.ref a), some (.ref w), some (.int pick), some (.int k), some (.ref p), some (.int (sp : Int)), some (.int (ot : Int)), some (.ref b)] ∧ MadeAt H1 H2 b ps False, ?_, ?_⟩
    · exact ⟨_, rfl, w, ws, rfl, .inl (.of hw1), fun b hb => ⟨b, rfl, Same.upd hb, hb, ws, ps, upd_same, (P1.same s1).same (Same.upd hb), by omega, fun _ => rfl⟩⟩
    rintro σ H2 ⟨b, rfl, M⟩
    obtain ⟨t1, hg1, hg2⟩ := P1.atN hsp
    obtain ⟨t2, hk1, hk2⟩ := P1.atN hot
    have hat1 : atI ws ((sp : Nat) : Int) = some (.ref t1) := atI_nat hg1
    have hat2 : atI ws ((ot : Nat) : Int) = some (.ref t2) := atI_nat hk1
    have hg2 := s1 _ _ hg2
    have hk2 := s1 _ _ hk2
    -- one further in the first book
    refine ⟨fun σ H3 => ∃ b, σ = [some (.ref a), some (.ref w), some (.int pick), some (.int k), some (.ref p), some (.int (sp : Int)), some (.int (ot : Int)), some (.ref b)] ∧ MadeAt H1 H3 b ps (pick % 8 = 0), ?_, ?_⟩
    · refine ⟨_, rfl, _, _, rfl, rfl, c8, rfl, _, rfl, ?_⟩
      refine ite2 (fun h => ?_) (fun h => ⟨b, rfl, M.weak fun z => z.elim⟩)
      have h : pick % 8 = 0 := by simpa using h
      obtain ⟨s2, hb, xs, qs, hb2, P2, L2, D2⟩ := M
      have e2 := D2 (fun z => z)
      have l2 := P2.1
      refine ⟨_, rfl, .inl ⟨rfl, _, .of hb2⟩, _, rfl, _, _, rfl, rfl, _, rfl, _, rfl, w, _, _, _, rfl, rfl, .of (s2 _ _ hw1), hat1, t1, _, 0, _, rfl, rfl, .of (s2 _ _ hg2), atI_nat (j := 0) rfl, _, _, rfl, rfl, _, rfl, _, rfl, w, _, _, _, rfl, rfl, .of (s2 _ _ hw1), hat1, t1, _, 1, _, rfl, rfl, .of (s2 _ _ hg2), atI_nat (j := 1) rfl, le_line (by simp), fun t ht => ?_⟩
      obtain ⟨gs, G1, G2⟩ := (P2.same (Same.upd ht)).ins (i := (sp : Int) + 1) (p := ((pr ps sp).1 + 1, (pr ps sp).2)) (t := t) upd_same
      exact ⟨b, xs, _, _, rfl, rfl, Same.upd ht _ _ hb2, ⟨by omega, by omega⟩, lt_line (by omega), b, rfl, MadeAt.put (s2.trans (Same.upd ht)) hb (Same.upd ht _ _ hb2) G1 (by omega) (.inl h)⟩
    clear M b
    rintro σ H2 ⟨b, rfl, M⟩
    -- one further in the second book
    refine ⟨fun σ H3 => ∃ b, σ = [some (.ref a), some (.ref w), some (.int pick), some (.int k), some (.ref p), some (.int (sp : Int)), some (.int (ot : Int)), some (.ref b)] ∧ MadeAt H1 H3 b ps (pick % 8 = 0 ∨ pick % 8 = 6), ?_, ?_⟩
    · refine ⟨_, rfl, _, _, rfl, rfl, c8, rfl, _, rfl, ?_⟩
      refine ite2 (fun h => ?_) (fun h => ⟨b, rfl, M.weak .inl⟩)
      have h : pick % 8 = 6 := by simpa using h
      obtain ⟨s2, hb, xs, qs, hb2, P2, L2, D2⟩ := M
      have e2 := D2 (by omega)
      have l2 := P2.1
      refine ⟨_, rfl, .inl ⟨rfl, _, .of hb2⟩, _, rfl, _, _, rfl, rfl, _, rfl, _, rfl, w, _, _, _, rfl, rfl, .of (s2 _ _ hw1), hat1, t1, _, 0, _, rfl, rfl, .of (s2 _ _ hg2), atI_nat (j := 0) rfl, _, rfl, _, rfl, w, _, _, _, rfl, rfl, .of (s2 _ _ hw1), hat1, t1, _, 1, _, rfl, rfl, .of (s2 _ _ hg2), atI_nat (j := 1) rfl, _, _, rfl, rfl, le_line (by simp), fun t ht => ?_⟩
      obtain ⟨gs, G1, G2⟩ := (P2.same (Same.upd ht)).ins (i := (sp : Int) + 1) (p := ((pr ps sp).1, (pr ps sp).2 + 1)) (t := t) upd_same
      exact ⟨b, xs, _, _, rfl, rfl, Same.upd ht _ _ hb2, ⟨by omega, by omega⟩, lt_line (by omega), b, rfl, MadeAt.put (s2.trans (Same.upd ht)) hb (Same.upd ht _ _ hb2) G1 (by omega) (.inl (.inr h))⟩
    clear M b H2
    rintro σ H2 ⟨b, rfl, M⟩
    -- another pair
    refine ⟨fun σ H3 => ∃ b, σ = [some (.ref a), some (.ref w), some (.int pick), some (.int k), some (.ref p), some (.int (sp : Int)), some (.int (ot : Int)), some (.ref b)] ∧ MadeAt H1 H3 b ps (pick % 8 = 0 ∨ pick % 8 = 6), ?_, ?_⟩
    · refine ⟨_, rfl, _, _, rfl, rfl, c8, rfl, _, rfl, ?_⟩
      refine ite2 (fun h => ?_) (fun h => ⟨b, rfl, M⟩)
      have h : pick % 8 = 1 := by simpa using h
      obtain ⟨s2, hb, xs, qs, hb2, P2, L2, D2⟩ := M
      have e2 := D2 (by omega)
      have l2 := P2.1
      exact ⟨_, rfl, _, rfl, _, rfl, b, xs, _, sp, rfl, rfl, hb2, ixN_nat (by omega), b, rfl, MadeAt.put s2 hb hb2 (P2.set (j := sp) (s2 _ _ hp1)) (by simp; omega) (.inr (by simp; omega))⟩
    clear M b H2
    rintro σ H2 ⟨b, rfl, M⟩
    -- one twice
    refine ⟨fun σ H3 => ∃ b, σ = [some (.ref a), some (.ref w), some (.int pick), some (.int k), some (.ref p), some (.int (sp : Int)), some (.int (ot : Int)), some (.ref b)] ∧ MadeAt H1 H3 b ps (pick % 8 = 0 ∨ pick % 8 = 6 ∨ pick % 8 = 2), ?_, ?_⟩
    · refine ⟨_, rfl, _, _, rfl, rfl, c8, rfl, _, rfl, ?_⟩
      refine ite2 (fun h => ?_) (fun h => ⟨b, rfl, M.weak (by omega)⟩)
      have h : pick % 8 = 2 := by simpa using h
      obtain ⟨s2, hb, xs, qs, hb2, P2, L2, D2⟩ := M
      have e2 := D2 (by omega)
      have l2 := P2.1
      obtain ⟨t, ht1, ht2⟩ := P2.atN (k := sp) (by omega)
      obtain ⟨gs, G1, G2⟩ := P2.ins (i := (sp : Int)) (p := pr qs sp) (t := t) ht2
      exact ⟨_, rfl, .inl ⟨rfl, _, .of hb2⟩, _, rfl, _, rfl, _, rfl, b, _, _, _, rfl, rfl, .of hb2, atI_nat ht1, b, xs, _, _, rfl, rfl, hb2, ⟨by omega, by omega⟩, lt_line (by omega), b, rfl, MadeAt.put s2 hb hb2 G1 (by omega) (.inl (by omega))⟩
    clear M b H2
    rintro σ H2 ⟨b, rfl, M⟩
    -- one left out
    refine ⟨fun σ H3 => ∃ b, σ = [some (.ref a), some (.ref w), some (.int pick), some (.int k), some (.ref p), some (.int (sp : Int)), some (.int (ot : Int)), some (.ref b)] ∧ MadeAt H1 H3 b ps (pick % 8 = 0 ∨ pick % 8 = 6 ∨ pick % 8 = 2 ∨ pick % 8 = 3), ?_, ?_⟩
    · refine ⟨_, rfl, _, _, rfl, rfl, c8, rfl, _, rfl, ?_⟩
      refine ite2 (fun h => ?_) (fun h => ⟨b, rfl, M.weak (by omega)⟩)
      have h : pick % 8 = 3 := by simpa using h
      obtain ⟨s2, hb, xs, qs, hb2, P2, L2, D2⟩ := M
      have e2 := D2 (by omega)
      have l2 := P2.1
      have z1 := cutV_length xs none (some ((sp : Nat) : Int))
      have z2 := cutV_length xs (some (((sp : Nat) : Int) + 1)) none
      refine ⟨_, rfl, _, rfl, _, rfl, b, _, rfl, .of hb2, fun r1 hr1 => ⟨_, rfl, _, rfl, _, _, rfl, rfl, _, rfl, b, _, rfl, .of (Same.upd hr1 _ _ hb2), fun r2 hr2 => ?_⟩⟩
      refine ⟨r1, r2, _, _, rfl, rfl, Same.upd hr2 _ _ upd_same, upd_same, le_line (by omega), fun r3 hr3 => ?_⟩
      have s3 := ((s2.trans (Same.upd hr1)).trans (Same.upd hr2)).trans (Same.upd (o := .lst (cutV xs none (some ((sp : Nat) : Int)) ++ cutV xs (some (((sp : Nat) : Int) + 1)) none)) hr3)
      refine ⟨r3, rfl, s3, ((s2.trans (Same.upd hr1)).trans (Same.upd hr2)).free hr3, _, qs.take sp ++ qs.drop (sp + 1), upd_same, ?_, ?_, fun z => absurd h (by omega)⟩
      · have P3 : Prs H2 (cutV xs none (some ((sp : Nat) : Int)) ++ cutV xs (some (((sp : Nat) : Int) + 1)) none) (qs.take sp ++ qs.drop (sp + 1)) := by
          rw [cut_to (by omega) (by omega), cut_from (by omega) (by omega)]
          have e1 : (((sp : Nat) : Int) + 1).toNat = sp + 1 := by omega
          have e0 : ((sp : Nat) : Int).toNat = sp := by omega
          rw [e0, e1]
          exact (P2.take sp).append (P2.drop (sp + 1))
        exact P3.same (((Same.upd hr1).trans (Same.upd hr2)).trans (Same.upd hr3))
      · rw [List.length_append, List.length_take, List.length_drop]; omega
    clear M b H2
    rintro σ H2 ⟨b, rfl, M⟩
    -- two exchanged
    refine ⟨fun σ H3 => ∃ b, σ = [some (.ref a), some (.ref w), some (.int pick), some (.int k), some (.ref p), some (.int (sp : Int)), some (.int (ot : Int)), some (.ref b)] ∧ MadeAt H1 H3 b ps (pick % 8 = 0 ∨ pick % 8 = 6 ∨ pick % 8 = 2 ∨ pick % 8 = 3), ?_, ?_⟩
    · refine ⟨_, rfl, _, _, rfl, rfl, c8, rfl, _, rfl, ?_⟩
      refine ite2 (fun h => ?_) (fun h => ⟨b, rfl, M⟩)
      have h : pick % 8 = 4 := by simpa using h
      obtain ⟨s2, hb, xs, qs, hb2, P2, L2, D2⟩ := M
      have e2 := D2 (by omega)
      have l2 := P2.1
      have M1 : MadeAt H1 (upd H2 b (.lst (xs.set sp (.ref t2)))) b ps False := MadeAt.put s2 hb hb2 (P2.set (j := sp) (f := pr ps ot) (s2 _ _ hk2)) (by simp; omega) (.inr (by simp; omega))
      refine ⟨fun σ H3 => σ = [some (.ref a), some (.ref w), some (.int pick), some (.int k), some (.ref p), some (.int (sp : Int)), some (.int (ot : Int)), some (.ref b)] ∧ MadeAt H1 H3 b ps False, ?_, ?_⟩
      · exact ⟨_, rfl, _, rfl, w, _, _, _, rfl, rfl, .of (s2 _ _ hw1), hat2, _, rfl, _, rfl, b, xs, _, sp, rfl, rfl, hb2, ixN_nat (by omega), rfl, M1⟩
      clear M1 P2 L2 D2 e2 l2 hb2 s2 xs qs hb H2
      rintro σ H2 ⟨rfl, s2, hb, xs, qs, hb2, P2, L2, D2⟩
      have e2 := D2 (fun z => z)
      have l2 := P2.1
      exact ⟨_, rfl, _, rfl, w, _, _, _, rfl, rfl, .of (s2 _ _ hw1), hat1, _, rfl, _, rfl, b, xs, _, ot, rfl, rfl, hb2, ixN_nat (by omega), b, rfl, MadeAt.put s2 hb hb2 (P2.set (j := ot) (f := pr ps sp) (s2 _ _ hg2)) (by simp; omega) (.inr (by simp; omega))⟩
    clear M b H2
    rintro σ H2 ⟨b, rfl, M⟩
    -- one put in
    refine ⟨fun σ H3 => ∃ b, σ = [some (.ref a), some (.ref w), some (.int pick), some (.int k), some (.ref p), some (.int (sp : Int)), some (.int (ot : Int)), some (.ref b)] ∧ MadeAt H1 H3 b ps True, ?_, ?_⟩
    · refine ⟨_, rfl, _, _, rfl, rfl, c8, rfl, _, rfl, ?_⟩
      refine ite2 (fun h => ?_) (fun h => ⟨b, rfl, M.weak (fun _ => trivial)⟩)
      have h : pick % 8 = 5 := by simpa using h
      obtain ⟨s2, hb, xs, qs, hb2, P2, L2, D2⟩ := M
      have e2 := D2 (by omega)
      have l2 := P2.1
      obtain ⟨gs, G1, G2⟩ := P2.ins (i := (sp : Int)) (p := pp) (t := p) (s2 _ _ hp1)
      exact ⟨_, rfl, .inl ⟨rfl, _, .of hb2⟩, _, rfl, _, rfl, b, xs, _, _, rfl, rfl, hb2, ⟨by omega, by omega⟩, lt_line (by omega), b, rfl, MadeAt.put s2 hb hb2 G1 (by omega) (.inl trivial)⟩
    clear M b H2
    rintro σ H2 ⟨b, rfl, s2, hb, xs, qs, hb2, P2, L2, D2⟩
    exact ⟨_, rfl, q H2 b xs qs (s1.trans s2) hb2 P2 (by omega)⟩
theorem sc_law : FnScope ["_law_script", "_law_case_here", "_law_way", "_law_terms_here", "_law_good", "_law_told", "_law_row_here", "_law_found", "_law_e", "_law_due"] ["_law_script"] (defScope s_law) := ⟨rfl, rfl, rfl, by decide +kernel, rfl, by decide +kernel, by decide +kernel⟩
theorem ok_law {f : Addr} {fd : FuncData} (F : Fun K "law" "law" s_law f fd) (T : TB mg) (D__law_at : IsDef P w K mg base true 1 "_law_at" ["_law_script", "_law_k"] (sp_at K)) (D__law_case : IsDef P w K mg base true 3 "_law_case" ["_law_script", "_law_most"] (sp_case K)) (D__law_drawn : IsDef P w K mg base true 2 "_law_drawn" ["_law_case_here", "_law_cell"] sp_ldrawn) (D__law_spoiled : IsDef P w K mg base true 1 "_law_spoiled" ["_law_case_here", "_law_way", "_law_pick", "_law_cell"] sp_lspoiled) (D__law_terms : IsDef P w K mg base true 7 "_law_terms" ["_law_case_here"] (sp_lterms C_Terms)) (D__law_is_way : IsDef P w K mg base true 2 "_law_is_way" ["_law_case_here", "_law_way"] sp_isway) (D__law_kind : IsDef P w K mg base false 1 "_law_kind" ["_law_e"] (sp_kind K [C_BadWord, C_BadBook, C_BadTerms, C_BadNear, C_BadWay, C_BadName, C_BadYear, C_NameTaken, C_Full, C_TooMany, C_NoBook, C_NoFinding, C_HasLeft, C_BadSearch])) (D__law_worth : IsDef P w K mg base true 2 "_law_worth" ["_law_case_here", "_law_way"] sp_lworth) (D__law_row : IsDef P w K mg base true 2 "_law_row" ["_law_found", "_law_due"] sp_row) (D__law_whole : IsDef P w K mg base true 1 "_law_whole" ["_law_found"] sp_whole) (D_way_row : IsDef P w K mg base true 3 "way_row" ["first", "second", "terms", "way"] (sp_wrow C_Terms C_BadWay)) (D_way_worth : IsDef P w K mg base true 4 "way_worth" ["first", "second", "terms", "way"] (sp_wworth C_Terms C_BadWay)) (e_QuoteError : Er K mg "QuoteError" C_QuoteError) (e_BadWay : Er K mg "BadWay" C_BadWay) (fit_BadWay : Fits K C_BadWay [C_BadWord, C_BadBook, C_BadTerms, C_BadNear, C_BadWay, C_BadName, C_BadYear, C_NameTaken, C_Full, C_TooMany, C_NoBook, C_NoFinding, C_HasLeft, C_BadSearch] 4) (mq_BadWay : W.mroIn K C_BadWay (.ref C_QuoteError) = some true) : FnOk P w K mg base (CXF P w) true 8 f fd ["_law_script"] (spLaw K) := by
  refine F.okX sc_law (fun vs H Q E h => ?_) (fun cdv A outer s H vs Q E hr h hX => ?_)
  · obtain ⟨a, ns, rfl, _⟩ := h
    rfl
  · obtain ⟨a, ns, rfl, hS, hlen, q⟩ := h
    have hu := hr.units
    have hu0 : (A.deeper (PyProof.Rows.envOfC "law" (defScope s_law) s.heap.objs.size f cdv)).units < cLine := by omega
    refine ⟨_, (@pss_cut _ _ _ _ _ (@ps_set _ _ (1) _ _ _ _ sc_law.nd (by exact rfl) (Or.inr rfl) (@pe_def _ _ _ _ _ _ _ _ _ _ _ _ D__law_case (hr.mono (by decide)) passF (@pa_c _ _ _ _ _ (@pv _ 0 _ _ (by rfl) (by first | exact Or.inl rfl | exact Or.inr (Or.inl rfl) | exact Or.inr (Or.inr rfl)) (by decide) (by decide)) (@pa_c _ _ _ _ _ pe_int pa_nil (by rfl)) (by rfl)) (by rfl) (by decide) (by rfl) (by rfl)) (by rfl) (by first | exact .inl rfl | exact .inr rfl | assumption)) (@pss_cut _ _ _ _ _ (@ps_set _ _ (2) _ _ _ _ sc_law.nd (by exact rfl) (Or.inr rfl) (@pe_def _ _ _ _ _ _ _ _ _ _ _ _ D__law_drawn (hr.mono (by decide)) passF (@pa_c _ _ _ _ _ (@pv _ 1 _ _ (by rfl) (by first | exact Or.inl rfl | exact Or.inr (Or.inl rfl) | exact Or.inr (Or.inr rfl)) (by decide) (by decide)) (@pa_c _ _ _ _ _ (@pe_def _ _ _ _ _ _ _ _ _ _ _ _ D__law_at (hr.mono (by decide)) passF (@pa_c _ _ _ _ _ (@pv _ 0 _ _ (by rfl) (by first | exact Or.inl rfl | exact Or.inr (Or.inl rfl) | exact Or.inr (Or.inr rfl)) (by decide) (by decide)) (@pa_c _ _ _ _ _ pe_int pa_nil (by rfl)) (by rfl)) (by rfl) (by decide) (by rfl) (by rfl)) pa_nil (by rfl)) (by rfl)) (by rfl) (by decide) (by rfl) (by rfl)) (by rfl) (by first | exact .inl rfl | exact .inr rfl | assumption)) (@pss_cut _ _ _ _ _ (@ps_if _ _ _ _ _ _ _ _ (@pt_cmpR _ _ _ _ _ _ _ _ op_gt (@pe_op _ _ _ _ _ _ _ _ op_mod (@pe_def _ _ _ _ _ _ _ _ _ _ _ _ D__law_at (hr.mono (by decide)) passF (@pa_c _ _ _ _ _ (@pv _ 0 _ _ (by rfl) (by first | exact Or.inl rfl | exact Or.inr (Or.inl rfl) | exact Or.inr (Or.inr rfl)) (by decide) (by decide)) (@pa_c _ _ _ _ _ pe_int pa_nil (by rfl)) (by rfl)) (by rfl) (by decide) (by rfl) (by rfl)) pe_int) pe_int (nomark _)) (@pss_one _ _ _ (@ps_set _ _ (2) _ _ _ _ sc_law.nd (by exact rfl) (Or.inr rfl) (@pe_def _ _ _ _ _ _ _ _ _ _ _ _ D__law_spoiled (hr.mono (by decide)) passF (@pa_c _ _ _ _ _ (@pv _ 1 _ _ (by rfl) (by first | exact Or.inl rfl | exact Or.inr (Or.inl rfl) | exact Or.inr (Or.inr rfl)) (by decide) (by decide)) (@pa_c _ _ _ _ _ (@pv _ 2 _ _ (by rfl) (by first | exact Or.inl rfl | exact Or.inr (Or.inl rfl) | exact Or.inr (Or.inr rfl)) (by decide) (by decide)) (@pa_c _ _ _ _ _ (@pe_def _ _ _ _ _ _ _ _ _ _ _ _ D__law_at (hr.mono (by decide)) passF (@pa_c _ _ _ _ _ (@pv _ 0 _ _ (by rfl) (by first | exact Or.inl rfl | exact Or.inr (Or.inl rfl) | exact Or.inr (Or.inr rfl)) (by decide) (by decide)) (@pa_c _ _ _ _ _ pe_int pa_nil (by rfl)) (by rfl)) (by rfl) (by decide) (by rfl) (by rfl)) (@pa_c _ _ _ _ _ (@pe_def _ _ _ _ _ _ _ _ _ _ _ _ D__law_at (hr.mono (by decide)) passF (@pa_c _ _ _ _ _ (@pv _ 0 _ _ (by rfl) (by first | exact Or.inl rfl | exact Or.inr (Or.inl rfl) | exact Or.inr (Or.inr rfl)) (by decide) (by decide)) (@pa_c _ _ _ _ _ pe_int pa_nil (by rfl)) (by rfl)) (by rfl) (by decide) (by rfl) (by rfl)) pa_nil (by rfl)) (by rfl)) (by rfl)) (by rfl)) (by rfl) (by decide) (by rfl) (by rfl)) (by rfl) (by first | exact .inl rfl | exact .inr rfl | assumption))) pss_nil) (@pss_cut _ _ _ _ _ (@ps_set _ _ (3) _ _ _ _ sc_law.nd (by exact rfl) (Or.inl rfl) (@pe_def _ _ _ _ _ _ _ _ _ _ _ _ D__law_terms (hr.mono (by decide)) passF (@pa_c _ _ _ _ _ (@pv _ 1 _ _ (by rfl) (by first | exact Or.inl rfl | exact Or.inr (Or.inl rfl) | exact Or.inr (Or.inr rfl)) (by decide) (by decide)) pa_nil (by rfl)) (by rfl) (by decide) (by rfl) (by rfl)) (by rfl) (by first | exact .inl rfl | exact .inr rfl | assumption)) (@pss_cut _ _ _ _ _ (@ps_set _ _ (4) _ _ _ _ sc_law.nd (by exact rfl) (Or.inl rfl) (@pe_def _ _ _ _ _ _ _ _ _ _ _ _ D__law_is_way (hr.mono (by decide)) passF (@pa_c _ _ _ _ _ (@pv _ 1 _ _ (by rfl) (by first | exact Or.inl rfl | exact Or.inr (Or.inl rfl) | exact Or.inr (Or.inr rfl)) (by decide) (by decide)) (@pa_c _ _ _ _ _ (@pv _ 2 _ _ (by rfl) (by first | exact Or.inl rfl | exact Or.inr (Or.inl rfl) | exact Or.inr (Or.inr rfl)) (by decide) (by decide)) pa_nil (by rfl)) (by rfl)) (by rfl) (by decide) (by rfl) (by rfl)) (by rfl) (by first | exact .inl rfl | exact .inr rfl | assumption)) (@pss_cut _ _ _ _ _ (@ps_set _ _ (5) _ _ _ _ sc_law.nd (by exact rfl) (Or.inl rfl) (@pe_lst _ _ _ _ (@pa_c _ _ _ _ _ pe_str (@pa_c _ _ _ _ _ pe_str pa_nil (by rfl)) (by rfl))) (by rfl) (by first | exact .inl rfl | exact .inr rfl | assumption)) (@pss_cut _ _ _ _ _ (@ps_set _ _ (6) _ _ _ _ sc_law.nd (by exact rfl) (Or.inl rfl) pe_non (by rfl) (by first | exact .inl rfl | exact .inr rfl | assumption)) (@pss_cut _ _ _ _ _ (@ps_set _ _ (7) _ _ _ _ sc_law.nd (by exact rfl) (Or.inl rfl) pe_non (by rfl) (by first | exact .inl rfl | exact .inr rfl | assumption)) (@pss_cut _ _ _ _ _ (@ps_try _ _ _ _ _ _ _ (by exact rfl) (by exact rfl) (fun EE _ _ hp ho => (@pss_one _ _ _ (@ps_set _ _ (6) _ _ _ _ sc_law.nd (by exact rfl) (Or.inl rfl) (@pe_def _ _ _ _ _ _ _ _ _ _ _ _ D_way_row (hr.mono (by decide)) hp (@pa_c _ _ _ _ _ (@pe_callTy _ _ _ _ _ _ _ _ _ (call_list_ofK K) (by exact rfl) T.n_list PyProof.Rows.Boot.«list» (@pa_c _ _ _ _ _ (@pe_ix _ _ _ _ _ _ _ (ix_listK K) (@pv _ 1 _ _ (by rfl) (by first | exact Or.inl rfl | exact Or.inr (Or.inl rfl) | exact Or.inr (Or.inr rfl)) (by decide) (by decide)) pe_int (fun _ _ => rfl)) pa_nil (by rfl)) (by decide) (by decide) (by rfl) (by rfl)) (@pa_c _ _ _ _ _ (@pe_callTy _ _ _ _ _ _ _ _ _ (call_list_ofK K) (by exact rfl) T.n_list PyProof.Rows.Boot.«list» (@pa_c _ _ _ _ _ (@pe_ix _ _ _ _ _ _ _ (ix_listK K) (@pv _ 1 _ _ (by rfl) (by first | exact Or.inl rfl | exact Or.inr (Or.inl rfl) | exact Or.inr (Or.inr rfl)) (by decide) (by decide)) pe_int (fun _ _ => rfl)) pa_nil (by rfl)) (by decide) (by decide) (by rfl) (by rfl)) (@pa_c _ _ _ _ _ (@pv _ 3 _ _ (by rfl) (by first | exact Or.inl rfl | exact Or.inr (Or.inl rfl) | exact Or.inr (Or.inr rfl)) (by decide) (by decide)) (@pa_c _ _ _ _ _ (@pe_callTy _ _ _ _ _ _ _ _ _ (call_list_ofK K) (by exact rfl) T.n_list PyProof.Rows.Boot.«list» (@pa_c _ _ _ _ _ (@pv _ 2 _ _ (by rfl) (by first | exact Or.inl rfl | exact Or.inr (Or.inl rfl) | exact Or.inr (Or.inr rfl)) (by decide) (by decide)) pa_nil (by rfl)) (by decide) (by decide) (by rfl) (by rfl)) pa_nil (by rfl)) (by rfl)) (by rfl)) (by rfl)) (by rfl) (by decide) (by rfl) (by rfl)) (by rfl) (by first | exact .inl rfl | exact .inr rfl | assumption)))) (@ph_as _ _ _ _ _ _ _ _ _ _ _ (8) (by exact rfl) e_QuoteError.m e_QuoteError.e sc_law.nd (by exact rfl) (by exact rfl) (fun _ => (@pss_one _ _ _ (@ps_asg _ _ _ _ _ _ (@pe_def _ _ _ _ _ _ _ _ _ _ _ _ D__law_kind ((hr.mark _).loose.mono (by decide)) passF (@pa_c _ _ _ _ _ (@pv _ 8 _ _ (by rfl) (by first | exact Or.inl rfl | exact Or.inr (Or.inl rfl) | exact Or.inr (Or.inr rfl)) (by decide) (by decide)) pa_nil (by rfl)) (by rfl) (by decide) (by rfl) (by rfl)) (@pg_sub _ _ _ _ _ _ _ (@pv _ 5 _ _ (by rfl) (by first | exact Or.inl rfl | exact Or.inr (Or.inl rfl) | exact Or.inr (Or.inr rfl)) (by decide) (by decide)) pe_int set_list (by intro _; rfl)) (by rfl) (by rfl) (by rfl)))) ph_never (by decide))) (@pss_cut _ _ _ _ _ (@ps_try _ _ _ _ _ _ _ (by exact rfl) (by exact rfl) (fun EE _ _ hp ho => (@pss_one _ _ _ (@ps_set _ _ (7) _ _ _ _ sc_law.nd (by exact rfl) (Or.inl rfl) (@pe_def _ _ _ _ _ _ _ _ _ _ _ _ D_way_worth (hr.mono (by decide)) hp (@pa_c _ _ _ _ _ (@pe_callTy _ _ _ _ _ _ _ _ _ (call_list_ofK K) (by exact rfl) T.n_list PyProof.Rows.Boot.«list» (@pa_c _ _ _ _ _ (@pe_ix _ _ _ _ _ _ _ (ix_listK K) (@pv _ 1 _ _ (by rfl) (by first | exact Or.inl rfl | exact Or.inr (Or.inl rfl) | exact Or.inr (Or.inr rfl)) (by decide) (by decide)) pe_int (fun _ _ => rfl)) pa_nil (by rfl)) (by decide) (by decide) (by rfl) (by rfl)) (@pa_c _ _ _ _ _ (@pe_callTy _ _ _ _ _ _ _ _ _ (call_list_ofK K) (by exact rfl) T.n_list PyProof.Rows.Boot.«list» (@pa_c _ _ _ _ _ (@pe_ix _ _ _ _ _ _ _ (ix_listK K) (@pv _ 1 _ _ (by rfl) (by first | exact Or.inl rfl | exact Or.inr (Or.inl rfl) | exact Or.inr (Or.inr rfl)) (by decide) (by decide)) pe_int (fun _ _ => rfl)) pa_nil (by rfl)) (by decide) (by decide) (by rfl) (by rfl)) (@pa_c _ _ _ _ _ (@pv _ 3 _ _ (by rfl) (by first | exact Or.inl rfl | exact Or.inr (Or.inl rfl) | exact Or.inr (Or.inr rfl)) (by decide) (by decide)) (@pa_c _ _ _ _ _ (@pe_callTy _ _ _ _ _ _ _ _ _ (call_list_ofK K) (by exact rfl) T.n_list PyProof.Rows.Boot.«list» (@pa_c _ _ _ _ _ (@pv _ 2 _ _ (by rfl) (by first | exact Or.inl rfl | exact Or.inr (Or.inl rfl) | exact Or.inr (Or.inr rfl)) (by decide) (by decide)) pa_nil (by rfl)) (by decide) (by decide) (by rfl) (by rfl)) pa_nil (by rfl)) (by rfl)) (by rfl)) (by rfl)) (by rfl) (by decide) (by rfl) (by rfl)) (by rfl) (by first | exact .inl rfl | exact .inr rfl | assumption)))) (@ph_as _ _ _ _ _ _ _ _ _ _ _ (8) (by exact rfl) e_QuoteError.m e_QuoteError.e sc_law.nd (by exact rfl) (by exact rfl) (fun _ => (@pss_one _ _ _ (@ps_asg _ _ _ _ _ _ (@pe_def _ _ _ _ _ _ _ _ _ _ _ _ D__law_kind ((hr.mark _).loose.mono (by decide)) passF (@pa_c _ _ _ _ _ (@pv _ 8 _ _ (by rfl) (by first | exact Or.inl rfl | exact Or.inr (Or.inl rfl) | exact Or.inr (Or.inr rfl)) (by decide) (by decide)) pa_nil (by rfl)) (by rfl) (by decide) (by rfl) (by rfl)) (@pg_sub _ _ _ _ _ _ _ (@pv _ 5 _ _ (by rfl) (by first | exact Or.inl rfl | exact Or.inr (Or.inl rfl) | exact Or.inr (Or.inr rfl)) (by decide) (by decide)) pe_int set_list (by intro _; rfl)) (by rfl) (by rfl) (by rfl)))) ph_never (by decide))) (@pss_cut _ _ _ _ _ (@ps_if _ _ _ _ _ _ _ _ (@pt_not _ _ _ _ (@pt_val _ _ _ (@pv _ 4 _ _ (by rfl) (by first | exact Or.inl rfl | exact Or.inr (Or.inl rfl) | exact Or.inr (Or.inr rfl)) (by decide) (by decide)) (by intro _; rfl))) (@pss_one _ _ _ (@ps_ret _ _ _ _ (@pe_cmpR _ _ _ _ _ _ _ _ (op_eq_listK K hu0) (@pv _ 5 _ _ (by rfl) (by first | exact Or.inl rfl | exact Or.inr (Or.inl rfl) | exact Or.inr (Or.inr rfl)) (by decide) (by decide)) (@pe_lst _ _ _ _ (@pa_c _ _ _ _ _ pe_str (@pa_c _ _ _ _ _ pe_str pa_nil (by rfl)) (by rfl))) (nomark _)))) pss_nil) (@pss_cut _ _ _ _ _ (@ps_if _ _ _ _ _ _ _ _ (@pt_cmpR _ _ _ _ _ _ _ _ (op_ne_listK K hu0) (@pv _ 5 _ _ (by rfl) (by first | exact Or.inl rfl | exact Or.inr (Or.inl rfl) | exact Or.inr (Or.inr rfl)) (by decide) (by decide)) (@pe_lst _ _ _ _ (@pa_c _ _ _ _ _ pe_str (@pa_c _ _ _ _ _ pe_str pa_nil (by rfl)) (by rfl))) (nomark _)) (@pss_one _ _ _ (@ps_ret _ _ _ _ pe_bl)) pss_nil) (@pss_cut _ _ _ _ _ (@ps_comp _ _ _ _ _ _ _ _ _ _ _ _ _ _ _ (9) _ _ (by exact rfl) sc_law.nd (by exact rfl) (by exact rfl) (show CompScope ["_law_script", "_law_case_here", "_law_way", "_law_terms_here", "_law_good", "_law_told", "_law_row_here", "_law_found", "_law_e", "_law_due"] (defScope s_law) _ ["_law_k"] [1, 2] ["_law_case_here", "_law_way"] from ⟨rfl, by decide +kernel, by decide +kernel, by decide +kernel, rfl, rfl, by decide +kernel, by decide +kernel, by decide +kernel⟩) (@pi_range1 _ _ _ _ _ _ (by exact rfl) T.n_range (@pa_c _ _ _ _ _ (@pe_callB _ _ _ _ _ _ _ _ _ (call_len_seqK K) (by exact rfl) T.n_len PyProof.Rows.Boot.«len» (@pa_c _ _ _ _ _ (@pv _ 2 _ _ (by rfl) (by first | exact Or.inl rfl | exact Or.inr (Or.inl rfl) | exact Or.inr (Or.inr rfl)) (by decide) (by decide)) pa_nil (by rfl)) (by decide) (by decide) (by rfl) (by rfl)) pa_nil (by rfl)) (by rfl)) (fun _ _ _ _ _ => (@pg_name _ _ (0) _ (show (["_law_k", "_law_case_here", "_law_way"] : List Str).Nodup by decide +kernel) (by exact rfl) (Or.inl rfl) (by first | exact .inl rfl | exact .inr rfl | assumption))) (fun _ _ _ _ _ => pts_nil) (fun _ _ _ _ _ => (@pe_def _ _ _ _ _ _ _ _ _ _ _ _ D__law_worth (hr.mono (by decide)) passF (@pa_c _ _ _ _ _ (@pv _ 1 _ _ (by rfl) (by first | exact Or.inl rfl | exact Or.inr (Or.inl rfl) | exact Or.inr (Or.inr rfl)) (by decide) (by decide)) (@pa_c _ _ _ _ _ (@pe_slice _ _ _ _ _ _ _ _ _ _ (sl_listK K) (@pv _ 2 _ _ (by rfl) (by first | exact Or.inl rfl | exact Or.inr (Or.inl rfl) | exact Or.inr (Or.inr rfl)) (by decide) (by decide)) po_none (@po_some _ _ _ (@pe_op _ _ _ _ _ _ _ _ op_add (@pv _ 0 _ _ (by rfl) (by first | exact Or.inl rfl | exact Or.inr (Or.inl rfl) | exact Or.inr (Or.inr rfl)) (by decide) (by decide)) pe_int))) pa_nil (by rfl)) (by rfl)) (by rfl) (by decide) (by rfl) (by rfl))) (by rfl) (by intro _; rfl)) (@pss_one _ _ _ (@ps_ret _ _ _ _ (@pe_and _ _ _ _ _ _ _ (@pe_def _ _ _ _ _ _ _ _ _ _ _ _ D__law_row (hr.mono (by decide)) passF (@pa_c _ _ _ _ _ (@pv _ 6 _ _ (by rfl) (by first | exact Or.inl rfl | exact Or.inr (Or.inl rfl) | exact Or.inr (Or.inr rfl)) (by decide) (by decide)) (@pa_c _ _ _ _ _ (@pv _ 9 _ _ (by rfl) (by first | exact Or.inl rfl | exact Or.inr (Or.inl rfl) | exact Or.inr (Or.inr rfl)) (by decide) (by decide)) pa_nil (by rfl)) (by rfl)) (by rfl) (by decide) (by rfl) (by rfl)) (@pe_and _ _ _ _ _ _ _ (@pe_def _ _ _ _ _ _ _ _ _ _ _ _ D__law_whole (hr.mono (by decide)) passF (@pa_c _ _ _ _ _ (@pv _ 7 _ _ (by rfl) (by first | exact Or.inl rfl | exact Or.inr (Or.inl rfl) | exact Or.inr (Or.inr rfl)) (by decide) (by decide)) pa_nil (by rfl)) (by rfl) (by decide) (by rfl) (by rfl)) (@pe_one _ _ _ _ _ (@pe_cmpR _ _ _ _ _ _ _ _ op_eq (@pv _ 7 _ _ (by rfl) (by first | exact Or.inl rfl | exact Or.inr (Or.inl rfl) | exact Or.inr (Or.inr rfl)) (by decide) (by decide)) (@pe_ix _ _ _ _ _ _ _ (ix_listK K) (@pv _ 9 _ _ (by rfl) (by first | exact Or.inl rfl | exact Or.inr (Or.inl rfl) | exact Or.inr (Or.inr rfl)) (by decide) (by decide)) (@pe_un _ _ _ _ _ _ un_neg pe_int) (fun _ _ => rfl)) (nomark _)))))))))))))))))))), ?_⟩
    refine ⟨fun σ H1 => ∃ (b : Addr) (c : Case) (x1 x2 m l : Addr) (us : List V), σ = [some (.ref a), some (.ref b), none, none, none, none, none, none, none, none] ∧ Same H H1 ∧ CaseL H1 b c x1 x2 m l us ∧ CaseOk 8 c, ?_, ?_⟩
    · exact ⟨_, rfl, a, ns, 8, rfl, hS, by decide, by decide, fun H1 b c x1 x2 m l us s1 hb C1 ok => ⟨b, c, x1, x2, m, l, us, rfl, s1, C1, ok⟩⟩
    rintro σ H1 ⟨b, c, x1, x2, m, l, us, rfl, s1, C1, ok⟩
    have hS1 := s1.seq hS
    have okx := ok.x
    have oky := ok.y
    refine ⟨fun σ H2 => ∃ (w : Addr) (ws : List V) (ps : List Pr), σ = [some (.ref a), some (.ref b), some (.ref w), none, none, none, none, none, none, none] ∧ Same H1 H2 ∧ H2 w = some (.lst ws) ∧ Prs H2 ws ps ∧ ps.length ≤ 2000, ?_, ?_⟩
    · exact ⟨_, rfl, _, rfl, a, ns, 13, rfl, hS1, by decide, b, _, c, x1, x2, m, l, us, rfl, C1, by omega, by omega, fun H2 w ws ps s2 hw hw2 P2 L2 _ => ⟨w, ws, ps, rfl, s2, hw2, P2, L2⟩⟩
    rintro σ H2 ⟨w0, ws0, ps0, rfl, s2, hw0, P0, L0⟩
    have hS2 := s2.seq hS1
    have C2 := C1.keep s2
    refine ⟨fun σ H3 => ∃ (w : Addr) (ws : List V) (ps : List Pr), σ = [some (.ref a), some (.ref b), some (.ref w), none, none, none, none, none, none, none] ∧ Same H2 H3 ∧ H3 w = some (.lst ws) ∧ Prs H3 ws ps ∧ ps.length ≤ 3000, ?_, ?_⟩
    · refine ⟨_, rfl, a, ns, 12, rfl, hS2, by decide, _, _, rfl, rfl, (show (0 : Int) < 5 by decide), _, _, rfl, rfl, _, rfl, ?_⟩
      refine ite2 (fun _ => ?_) (fun _ => ⟨w0, ws0, ps0, rfl, .refl _, hw0, P0, by omega⟩)
      exact ⟨_, rfl, _, rfl, _, rfl, a, ns, 14, rfl, hS2, by decide, _, rfl, a, ns, 15, rfl, hS2, by decide, b, w0, c, x1, x2, m, l, us, ws0, ps0, _, _, rfl, C2, hw0, P0, L0, fun H3 w ws ps s3 hw3 P3 L3 => ⟨w, ws, ps, rfl, s3, hw3, P3, L3⟩⟩
    rintro σ H3 ⟨w, ws, ps, rfl, s3, hw3, P3, L3⟩
    have C3 := C2.keep s3
    have hul := P3.1
    refine ⟨fun σ H4 => ∃ (t : Addr), σ = [some (.ref a), some (.ref b), some (.ref w), some (.ref t), none, none, none, none, none, none] ∧ Same H3 H4 ∧ TFor H4 C_Terms t c, ?_, ?_⟩
    · exact ⟨_, rfl, b, c, x1, x2, m, l, us, 8, rfl, C3, ok, fun H4 t s4 T4 => ⟨t, rfl, s4, T4⟩⟩
    rintro σ H4 ⟨t, rfl, s4, T4⟩
    have C4 := C3.keep s4
    have hw4 := s4 _ _ hw3
    have P4 := P3.same s4
    have no := ok.num
    refine ⟨fun σ H5 => σ = [some (.ref a), some (.ref b), some (.ref w), some (.ref t), some (.bl (isWay c ps)), none, none, none, none, none] ∧ Same H4 H5, ?_, ?_⟩
    · exact ⟨_, rfl, _, rfl, b, w, c, x1, x2, m, l, us, ws, ps, rfl, C4, hw4, P4, by omega, fun H5 s5 => ⟨rfl, s5⟩⟩
    rintro σ H5 ⟨rfl, s5⟩
    refine ⟨fun σ H6 => ∃ td, σ = [some (.ref a), some (.ref b), some (.ref w), some (.ref t), some (.bl (isWay c ps)), some (.ref td), none, none, none, none] ∧ Same H4 H6 ∧ H4 td = none ∧ H6 td = some (.lst [.str "", .str ""]), ?_, ?_⟩
    · exact ⟨le_line (by simp), fun td htd => ⟨td, rfl, s5.trans (Same.upd htd), s5.free htd, upd_same⟩⟩
    rintro σ H6 ⟨td, rfl, s6, ht0, ht6⟩
    refine ⟨fun σ H7 => σ = [some (.ref a), some (.ref b), some (.ref w), some (.ref t), some (.bl (isWay c ps)), some (.ref td), some .non, none, none, none] ∧ H7 = H6, ⟨rfl, rfl⟩, ?_⟩
    rintro σ H6 ⟨rfl, rfl⟩
    refine ⟨fun σ H7 => σ = [some (.ref a), some (.ref b), some (.ref w), some (.ref t), some (.bl (isWay c ps)), some (.ref td), some .non, some .non, none, none] ∧ H7 = H6, ⟨rfl, rfl⟩, ?_⟩
    rintro σ H6 ⟨rfl, rfl⟩
    -- the row
    refine ⟨fun σ H7 => ∃ (v : V) (z : Str), σ = [some (.ref a), some (.ref b), some (.ref w), some (.ref t), some (.bl (isWay c ps)), some (.ref td), some v, some .non, none, none] ∧ Same H4 H7 ∧ H7 td = some (.lst [.str z, .str ""]) ∧
      ((isWay c ps = true ∧ z = "" ∧ ∃ r, v = .ref r ∧ r ≠ td ∧ H4 r = none ∧ H7 r = some (.lst ((rowOf c ps).map V.int))) ∨ (isWay c ps = false ∧ z = "way")), ?_, ?_⟩
    · refine ⟨fun σ cls od H7 => cls = .ref C_BadWay ∧ isWay c ps = false ∧ σ = [some (.ref a), some (.ref b), some (.ref w), some (.ref t), some (.bl (isWay c ps)), some (.ref td), some .non, some .non, none, none] ∧ Same H4 H7 ∧ H7 td = some (.lst [.str "", .str ""]), ?_, ?_⟩
      · have hca := s6 _ _ C4.ca
        refine ⟨_, rfl, b, _, 0, _, rfl, rfl, .of hca, atI_nat (j := 0) rfl, x1, _, rfl, .inl (.of (s6 _ _ C4.fi)), fun f1 hf1 => ?_⟩
        have sa := Same.upd (o := .lst (c.xs.map V.str)) hf1
        have hca := sa _ _ hca
        refine ⟨_, rfl, b, _, 1, _, rfl, rfl, .of hca, atI_nat (j := 1) rfl, x2, _, rfl, .inl (.of (sa _ _ (s6 _ _ C4.se))), fun f2 hf2 => ?_⟩
        have sb := sa.trans (Same.upd (o := .lst (c.ys.map V.str)) hf2)
        refine ⟨_, rfl, _, rfl, w, _, rfl, .inl (.of (sb _ _ (s6 _ _ hw4))), fun f3 hf3 => ?_⟩
        have sc := sb.trans (Same.upd (o := .lst ws) hf3)
        have sd := s6.trans sc
        refine ⟨f1, f2, t, f3, c, ws, ps, rfl, ?_, ?_, T4.keep sd, no, upd_same, P4.same sd, by omega, ?_, ?_⟩
        · exact (Same.upd hf3) _ _ ((Same.upd hf2) _ _ upd_same)
        · exact (Same.upd hf3) _ _ upd_same
        · intro hy H7 r s7 hr7 hrr
          have se := sc.trans s7
          refine ⟨_, _, rfl, sd.trans s7, se _ _ ht6, .inl ⟨hy, rfl, r, rfl, ?_, sd.free hr7, hrr⟩⟩
          exact Ne.symm (ne_of_none (sc _ _ ht6) hr7)
        · intro hn H7 s7
          exact ⟨rfl, hn, rfl, sd.trans s7, s7 _ _ (sc _ _ ht6)⟩
      · rintro σ' cls od H7 ⟨rfl, hn, rfl, s7, ht7⟩
        refine ⟨C_BadWay, rfl, true, mq_BadWay, ?_⟩
        refine iteT ?_
        intro ea hea
        have sE : Same H7 (upd H7 ea (.exc ea C_BadWay)) := Same.upd hea
        refine ⟨_, rfl, ea, C_BadWay, 4, rfl, upd_same, e_BadWay.e, by decide, fit_BadWay, fun H8 s8 => ?_⟩
        have sF := s7.trans (sE.trans s8)
        exact ⟨_, rfl, td, _, 0, 0, rfl, rfl, s8 _ _ (sE _ _ ht7), rfl, .non, "way", rfl, sF.upd2 ht0, upd_same, .inr ⟨hn, rfl⟩⟩
    clear ht6 s6 H6 s5 H5
    rintro σ H6 ⟨v, z, rfl, s6, ht6, hv⟩
    -- the worth
    refine ⟨fun σ H7 => ∃ (u : V) (z2 : Str), σ = [some (.ref a), some (.ref b), some (.ref w), some (.ref t), some (.bl (isWay c ps)), some (.ref td), some v, some u, none, none] ∧ Same H4 H7 ∧ H7 td = some (.lst [.str z, .str z2]) ∧
      ((isWay c ps = true ∧ z = "" ∧ z2 = "" ∧ u = .int (worthAt c ps (ps.length - 1)) ∧ ∃ r, v = .ref r ∧ H7 r = some (.lst ((rowOf c ps).map V.int))) ∨ (isWay c ps = false ∧ z = "way" ∧ z2 = "way")), ?_, ?_⟩
    · refine ⟨fun σ cls od H7 => cls = .ref C_BadWay ∧ isWay c ps = false ∧ σ = [some (.ref a), some (.ref b), some (.ref w), some (.ref t), some (.bl (isWay c ps)), some (.ref td), some v, some .non, none, none] ∧ Same H4 H7 ∧ H7 td = some (.lst [.str z, .str ""]), ?_, ?_⟩
      · have hca := s6 _ _ C4.ca
        refine ⟨_, rfl, b, _, 0, _, rfl, rfl, .of hca, atI_nat (j := 0) rfl, x1, _, rfl, .inl (.of (s6 _ _ C4.fi)), fun f1 hf1 => ?_⟩
        have sa := Same.upd (o := .lst (c.xs.map V.str)) hf1
        have hca := sa _ _ hca
        refine ⟨_, rfl, b, _, 1, _, rfl, rfl, .of hca, atI_nat (j := 1) rfl, x2, _, rfl, .inl (.of (sa _ _ (s6 _ _ C4.se))), fun f2 hf2 => ?_⟩
        have sb := sa.trans (Same.upd (o := .lst (c.ys.map V.str)) hf2)
        refine ⟨_, rfl, _, rfl, w, _, rfl, .inl (.of (sb _ _ (s6 _ _ hw4))), fun f3 hf3 => ?_⟩
        have sc := sb.trans (Same.upd (o := .lst ws) hf3)
        have sd := s6.trans sc
        refine ⟨f1, f2, t, f3, c, ws, ps, rfl, ?_, ?_, T4.keep sd, no, upd_same, P4.same sd, by omega, ?_, ?_⟩
        · exact (Same.upd hf3) _ _ ((Same.upd hf2) _ _ upd_same)
        · exact (Same.upd hf3) _ _ upd_same
        · intro hy H7 s7
          have se := sc.trans s7
          rcases hv with ⟨_, rfl, r, rfl, hne, hr0, hrr⟩ | ⟨hn, _⟩
          · exact ⟨_, _, rfl, sd.trans s7, se _ _ ht6, .inl ⟨hy, rfl, rfl, rfl, r, rfl, se _ _ hrr⟩⟩
          · rw [hy] at hn; cases hn
        · intro hn H7 s7
          exact ⟨rfl, hn, rfl, sd.trans s7, s7 _ _ (sc _ _ ht6)⟩
      · rintro σ' cls od H7 ⟨rfl, hn, rfl, s7, ht7⟩
        refine ⟨C_BadWay, rfl, true, mq_BadWay, ?_⟩
        refine iteT ?_
        intro ea hea
        have sE : Same H7 (upd H7 ea (.exc ea C_BadWay)) := Same.upd hea
        refine ⟨_, rfl, ea, C_BadWay, 4, rfl, upd_same, e_BadWay.e, by decide, fit_BadWay, fun H8 s8 => ?_⟩
        have sF := s7.trans (sE.trans s8)
        refine ⟨_, rfl, td, _, 1, 1, rfl, rfl, s8 _ _ (sE _ _ ht7), rfl, .non, "way", rfl, sF.upd2 ht0, upd_same, .inr ⟨hn, ?_, rfl⟩⟩
        rcases hv with ⟨hy, _⟩ | ⟨_, e⟩
        · rw [hn] at hy; cases hy
        · exact e
    clear hv ht6 s6 H6
    rintro σ H6 ⟨u, z2, rfl, s6, ht6, hv⟩
    refine ⟨fun σ H7 => σ = [some (.ref a), some (.ref b), some (.ref w), some (.ref t), some (.bl (isWay c ps)), some (.ref td), some v, some u, none, none] ∧ H7 = H6 ∧ isWay c ps = true, ?_, ?_⟩
    · refine ⟨_, rfl, _, rfl, ?_⟩
      refine ite2 (fun h1 => ?_) (fun h1 => ?_)
      · have h1 : isWay c ps = false := (Bool.not_eq_true' _).mp h1
        rcases hv with ⟨hy, _⟩ | ⟨_, rfl, rfl⟩
        · rw [h1] at hy; cases hy
        refine ⟨_, rfl, le_line (by simp), fun p hp => ⟨td, p, _, _, (fun _ => true), rfl, rfl, .of (Same.upd hp _ _ ht6), .of upd_same, ?_, q _⟩⟩
        intro j x y e1 e2
        match j, e1, e2 with
        | 0, e1, e2 => cases e1; cases e2; exact .inl ⟨rfl, rfl, by decide +kernel⟩
        | 1, e1, e2 => cases e1; cases e2; exact .inl ⟨rfl, rfl, by decide +kernel⟩
        | n + 2, e1, e2 => simp at e1
      · have h1 : ¬ (!(isWay c ps)) = true := h1
        exact ⟨rfl, rfl, by simpa using h1⟩
    rintro σ H6 ⟨rfl, rfl, hy⟩
    rcases hv with ⟨_, rfl, rfl, rfl, r, rfl, hrr⟩ | ⟨hn, _⟩
    rotate_left
    · rw [hy] at hn; cases hn
    obtain ⟨hne, hgo⟩ := isWay_good hy
    have hpos : 0 < ps.length := List.length_pos_iff.mpr hne
    refine ⟨fun σ H7 => σ = [some (.ref a), some (.ref b), some (.ref w), some (.ref t), some (.bl (isWay c ps)), some (.ref td), some (.ref r), some (.int (worthAt c ps (ps.length - 1))), none, none] ∧ Same H6 H7, ?_, ?_⟩
    · refine ⟨_, rfl, le_line (by simp), fun p hp => ⟨td, p, _, _, (fun _ => true), rfl, rfl, .of (Same.upd hp _ _ ht6), .of upd_same, ?_, _, rfl, ?_⟩⟩
      · intro j x y e1 e2
        match j, e1, e2 with
        | 0, e1, e2 => cases e1; cases e2; exact .inl ⟨rfl, rfl, by decide +kernel⟩
        | 1, e1, e2 => cases e1; cases e2; exact .inl ⟨rfl, rfl, by decide +kernel⟩
        | n + 2, e1, e2 => simp at e1
      · refine ite2 (fun hh => absurd hh (by simp)) (fun _ => ?_)
        exact ⟨rfl, Same.upd hp⟩
    rintro σ H7 ⟨rfl, s7⟩
    have sG := s6.trans s7
    refine ⟨fun σ H8 => ∃ d, σ = [some (.ref a), some (.ref b), some (.ref w), some (.ref t), some (.bl (isWay c ps)), some (.ref td), some (.ref r), some (.int (worthAt c ps (ps.length - 1))), none, some (.ref d)] ∧ Same H7 H8 ∧ H8 d = some (.lst ((rowOf c ps).map V.int)), ?_, ?_⟩
    · refine ⟨_, rfl, w, _, rfl, .inl (.of (sG _ _ hw4)), (ws.length : Int), rfl, by omega, by omega, fun D hD => ?_⟩
      refine comp_range (fun i ys σ' H8 => (∃ u, σ' = [u, some (.ref b), some (.ref w)]) ∧ ys = ((List.range i).map (worthAt c ps)).map V.int ∧ H8 D = some (.lst ys) ∧ Same H7 H8) ⟨⟨_, rfl⟩, rfl, upd_same, Same.upd hD⟩ ?_ ?_
      · rintro i ys σ' H8 hi ⟨⟨u, rfl⟩, rfl, hD8, s8⟩
        have hi : i < ps.length := by omega
        have sH := sG.trans s8
        refine gN_yes ?_
        refine ⟨_, rfl, _, rfl, _, rfl, _, _, rfl, rfl, _, rfl, w, _, rfl, .of (sH _ _ hw4), fun p hp => ?_⟩
        have e1 : cutV ws none (some (0 + (i : Int) + 1)) = ws.take (i + 1) := by
          rw [cut_to (by omega) (by omega)]
          congr 1
          omega
        rw [e1]
        have sI := sH.trans (Same.upd (o := .lst (ws.take (i + 1))) hp)
        have gT : isWay c (ps.take (i + 1)) = true := isWay_take hy (by omega)
        have lT : (ps.take (i + 1)).length = i + 1 := by rw [List.length_take]; omega
        refine ⟨b, p, c, x1, x2, m, l, us, _, ps.take (i + 1), rfl, C4.keep sI, no, upd_same, (P4.same sI).take _, by omega, gT, ?_⟩
        rw [lT, Nat.add_sub_cancel, worth_take (by omega)]
        refine ⟨Same.upd hp _ _ hD8, lt_line (by simp; omega), ⟨_, rfl⟩, ?_, upd_same, (s8.trans (Same.upd hp)).upd2 hD⟩
        rw [List.range_succ]; simp
      · rintro ys σ' H8 ⟨_, rfl, hD8, s8⟩
        have e : ((ws.length : Nat) : Int).toNat = ps.length := by omega
        rw [e] at hD8
        exact ⟨D, rfl, s8, hD8⟩
    rintro σ H8 ⟨d, rfl, s8, hd8⟩
    have hr8 := s8 _ _ (s7 _ _ hrr)
    obtain ⟨n, hn⟩ : ∃ n, ps.length = n + 1 := ⟨ps.length - 1, by omega⟩
    refine ⟨_, rfl, _, rfl, r, d, rowOf c ps, rfl, hr8, hd8, by rw [rowOf_len]; omega, _, rfl, ?_⟩
    refine iteT ?_
    refine ⟨_, rfl, _, rfl, _, rfl, ?_⟩
    refine iteT ?_
    have hat : atI ((rowOf c ps).map V.int) (-1) = some (.int (worthAt c ps (ps.length - 1))) := by
      rw [rowOf, hn, List.range_succ, List.map_append, List.map_append]
      exact atI_last _ _
    refine ⟨_, rfl, _, rfl, _, rfl, d, _, _, _, rfl, rfl, .of hd8, hat, rfl, ?_⟩
    rw [decide_eq_true rfl]
    exact q _
end
theorem all_mk {l : W.OpenLaw} {w : World} {K : W.Frag} {h : Heap} {mg : Str → Option Value} {fa : Addr} (X : K.In h) (G : h.Ns mainGlobals mg) (hfa : mg "law" = some (.ref fa))
    {C_Terms : Addr}
    {f_is_small_letter : Addr} {od_is_small_letter an_is_small_letter : Option Addr} {sl_is_small_letter : Array (Option Value)} {oc_is_small_letter kV_is_small_letter dc_is_small_letter pm_is_small_letter cd_is_small_letter ct_is_small_letter : Value}
    {f_is_word : Addr} {od_is_word an_is_word : Option Addr} {sl_is_word : Array (Option Value)} {oc_is_word kV_is_word dc_is_word pm_is_word cd_is_word ct_is_word : Value}
    {f_is_between : Addr} {od_is_between an_is_between : Option Addr} {sl_is_between : Array (Option Value)} {oc_is_between kV_is_between dc_is_between pm_is_between cd_is_between ct_is_between : Value}
    {f_check_number : Addr} {od_check_number an_check_number : Option Addr} {sl_check_number : Array (Option Value)} {oc_check_number kV_check_number dc_check_number pm_check_number cd_check_number ct_check_number : Value}
    {f_check_near_form : Addr} {od_check_near_form an_check_near_form : Option Addr} {sl_check_near_form : Array (Option Value)} {oc_check_near_form kV_check_near_form dc_check_near_form pm_check_near_form cd_check_near_form ct_check_near_form : Value}
    {f_near_prices : Addr} {od_near_prices an_near_prices : Option Addr} {sl_near_prices : Array (Option Value)} {oc_near_prices kV_near_prices dc_near_prices pm_near_prices cd_near_prices ct_near_prices : Value}
    {f_Terms___init__ : Addr} {od_Terms___init__ an_Terms___init__ : Option Addr} {sl_Terms___init__ : Array (Option Value)} {oc_Terms___init__ kV_Terms___init__ dc_Terms___init__ pm_Terms___init__ cd_Terms___init__ ct_Terms___init__ : Value}
    {dA_Terms___init__ : Addr} {do_Terms___init__ : Value} {dd_Terms___init__ : Option Addr} {dn_Terms___init__ : Nat} {ds_Terms___init__ : Array (Option Value)} {tt_Terms___init__ : Tok}
    {f_Terms_pair_worth : Addr} {od_Terms_pair_worth an_Terms_pair_worth : Option Addr} {sl_Terms_pair_worth : Array (Option Value)} {oc_Terms_pair_worth kV_Terms_pair_worth dc_Terms_pair_worth pm_Terms_pair_worth cd_Terms_pair_worth ct_Terms_pair_worth : Value}
    {f_is_place : Addr} {od_is_place an_is_place : Option Addr} {sl_is_place : Array (Option Value)} {oc_is_place kV_is_place dc_is_place pm_is_place cd_is_place ct_is_place : Value}
    {f_standing_worth : Addr} {od_standing_worth an_standing_worth : Option Addr} {sl_standing_worth : Array (Option Value)} {oc_standing_worth kV_standing_worth dc_standing_worth pm_standing_worth cd_standing_worth ct_standing_worth : Value}
    {f_price_between : Addr} {od_price_between an_price_between : Option Addr} {sl_price_between : Array (Option Value)} {oc_price_between kV_price_between dc_price_between pm_price_between cd_price_between ct_price_between : Value}
    {f_way_row : Addr} {od_way_row an_way_row : Option Addr} {sl_way_row : Array (Option Value)} {oc_way_row kV_way_row dc_way_row pm_way_row cd_way_row ct_way_row : Value}
    {f_way_worth : Addr} {od_way_worth an_way_worth : Option Addr} {sl_way_worth : Array (Option Value)} {oc_way_worth kV_way_worth dc_way_worth pm_way_worth cd_way_worth ct_way_worth : Value}
    {f__law_at : Addr} {od__law_at an__law_at : Option Addr} {sl__law_at : Array (Option Value)} {oc__law_at kV__law_at dc__law_at pm__law_at cd__law_at ct__law_at : Value}
    {f__law_whole : Addr} {od__law_whole an__law_whole : Option Addr} {sl__law_whole : Array (Option Value)} {oc__law_whole kV__law_whole dc__law_whole pm__law_whole cd__law_whole ct__law_whole : Value}
    {f__law_bank : Addr} {od__law_bank an__law_bank : Option Addr} {sl__law_bank : Array (Option Value)} {oc__law_bank kV__law_bank dc__law_bank pm__law_bank cd__law_bank ct__law_bank : Value}
    {f__law_book : Addr} {od__law_book an__law_book : Option Addr} {sl__law_book : Array (Option Value)} {oc__law_book kV__law_book dc__law_book pm__law_book cd__law_book ct__law_book : Value}
    {f__law_quote : Addr} {od__law_quote an__law_quote : Option Addr} {sl__law_quote : Array (Option Value)} {oc__law_quote kV__law_quote dc__law_quote pm__law_quote cd__law_quote ct__law_quote : Value}
    {f__law_numbers : Addr} {od__law_numbers an__law_numbers : Option Addr} {sl__law_numbers : Array (Option Value)} {oc__law_numbers kV__law_numbers dc__law_numbers pm__law_numbers cd__law_numbers ct__law_numbers : Value}
    {f__law_near : Addr} {od__law_near an__law_near : Option Addr} {sl__law_near : Array (Option Value)} {oc__law_near kV__law_near dc__law_near pm__law_near cd__law_near ct__law_near : Value}
    {f__law_case : Addr} {od__law_case an__law_case : Option Addr} {sl__law_case : Array (Option Value)} {oc__law_case kV__law_case dc__law_case pm__law_case cd__law_case ct__law_case : Value}
    {f__law_pair : Addr} {od__law_pair an__law_pair : Option Addr} {sl__law_pair : Array (Option Value)} {oc__law_pair kV__law_pair dc__law_pair pm__law_pair cd__law_pair ct__law_pair : Value}
    {f__law_worth : Addr} {od__law_worth an__law_worth : Option Addr} {sl__law_worth : Array (Option Value)} {oc__law_worth kV__law_worth dc__law_worth pm__law_worth cd__law_worth ct__law_worth : Value}
    {f__law_drawn : Addr} {od__law_drawn an__law_drawn : Option Addr} {sl__law_drawn : Array (Option Value)} {oc__law_drawn kV__law_drawn dc__law_drawn pm__law_drawn cd__law_drawn ct__law_drawn : Value}
    {f__law_row : Addr} {od__law_row an__law_row : Option Addr} {sl__law_row : Array (Option Value)} {oc__law_row kV__law_row dc__law_row pm__law_row cd__law_row ct__law_row : Value}
    {f__law_kind : Addr} {od__law_kind an__law_kind : Option Addr} {sl__law_kind : Array (Option Value)} {oc__law_kind kV__law_kind dc__law_kind pm__law_kind cd__law_kind ct__law_kind : Value}
    {f__law_terms : Addr} {od__law_terms an__law_terms : Option Addr} {sl__law_terms : Array (Option Value)} {oc__law_terms kV__law_terms dc__law_terms pm__law_terms cd__law_terms ct__law_terms : Value}
    {f__law_is_way : Addr} {od__law_is_way an__law_is_way : Option Addr} {sl__law_is_way : Array (Option Value)} {oc__law_is_way kV__law_is_way dc__law_is_way pm__law_is_way cd__law_is_way ct__law_is_way : Value}
    {f__law_spoiled : Addr} {od__law_spoiled an__law_spoiled : Option Addr} {sl__law_spoiled : Array (Option Value)} {oc__law_spoiled kV__law_spoiled dc__law_spoiled pm__law_spoiled cd__law_spoiled ct__law_spoiled : Value}
    {f_law : Addr} {od_law an_law : Option Addr} {sl_law : Array (Option Value)} {oc_law kV_law dc_law pm_law cd_law ct_law : Value}
    {t_WORD_MOST : Tok}
    {t_WORTH_MOST : Tok}
    {t_NEAR_MOST : Tok}
    {t_PART_MOST : Tok}
    {C_QuoteError : Addr}
    {C_BadWord : Addr}
    {C_BadBook : Addr}
    {C_BadTerms : Addr}
    {C_BadNear : Addr}
    {C_BadWay : Addr}
    {C_BadName : Addr}
    {C_BadYear : Addr}
    {C_NameTaken : Addr}
    {C_Full : Addr}
    {C_TooMany : Addr}
    {C_NoBook : Addr}
    {C_NoFinding : Addr}
    {C_HasLeft : Addr}
    {C_BadSearch : Addr}
    (g_Terms : W.nsIn K mainGlobals "Terms" = some (some (.ref C_Terms)))
    (a_is_small_letter : W.nsIn K mainGlobals "is_small_letter" = some (some (.ref f_is_small_letter)))
    (l_is_small_letter : K.lookup f_is_small_letter = some ⟨oc_is_small_letter, od_is_small_letter, .func (W.fnOf "is_small_letter" "is_small_letter" (defArgs s_is_small_letter) (defBody s_is_small_letter) (defScope s_is_small_letter) .none kV_is_small_letter dc_is_small_letter pm_is_small_letter an_is_small_letter cd_is_small_letter ct_is_small_letter), sl_is_small_letter⟩)
    (c_is_small_letter : W.codeIn K cd_is_small_letter "is_small_letter" = true) (k_is_small_letter : W.keepIn K (.ref f_is_small_letter) = true)
    (a_is_word : W.nsIn K mainGlobals "is_word" = some (some (.ref f_is_word)))
    (l_is_word : K.lookup f_is_word = some ⟨oc_is_word, od_is_word, .func (W.fnOf "is_word" "is_word" (defArgs s_is_word) (defBody s_is_word) (defScope s_is_word) .none kV_is_word dc_is_word pm_is_word an_is_word cd_is_word ct_is_word), sl_is_word⟩)
    (c_is_word : W.codeIn K cd_is_word "is_word" = true) (k_is_word : W.keepIn K (.ref f_is_word) = true)
    (a_is_between : W.nsIn K mainGlobals "is_between" = some (some (.ref f_is_between)))
    (l_is_between : K.lookup f_is_between = some ⟨oc_is_between, od_is_between, .func (W.fnOf "is_between" "is_between" (defArgs s_is_between) (defBody s_is_between) (defScope s_is_between) .none kV_is_between dc_is_between pm_is_between an_is_between cd_is_between ct_is_between), sl_is_between⟩)
    (c_is_between : W.codeIn K cd_is_between "is_between" = true) (k_is_between : W.keepIn K (.ref f_is_between) = true)
    (a_check_number : W.nsIn K mainGlobals "check_number" = some (some (.ref f_check_number)))
    (l_check_number : K.lookup f_check_number = some ⟨oc_check_number, od_check_number, .func (W.fnOf "check_number" "check_number" (defArgs s_check_number) (defBody s_check_number) (defScope s_check_number) .none kV_check_number dc_check_number pm_check_number an_check_number cd_check_number ct_check_number), sl_check_number⟩)
    (c_check_number : W.codeIn K cd_check_number "check_number" = true) (k_check_number : W.keepIn K (.ref f_check_number) = true)
    (a_check_near_form : W.nsIn K mainGlobals "check_near_form" = some (some (.ref f_check_near_form)))
    (l_check_near_form : K.lookup f_check_near_form = some ⟨oc_check_near_form, od_check_near_form, .func (W.fnOf "check_near_form" "check_near_form" (defArgs s_check_near_form) (defBody s_check_near_form) (defScope s_check_near_form) .none kV_check_near_form dc_check_near_form pm_check_near_form an_check_near_form cd_check_near_form ct_check_near_form), sl_check_near_form⟩)
    (c_check_near_form : W.codeIn K cd_check_near_form "check_near_form" = true) (k_check_near_form : W.keepIn K (.ref f_check_near_form) = true)
    (a_near_prices : W.nsIn K mainGlobals "near_prices" = some (some (.ref f_near_prices)))
    (l_near_prices : K.lookup f_near_prices = some ⟨oc_near_prices, od_near_prices, .func (W.fnOf "near_prices" "near_prices" (defArgs s_near_prices) (defBody s_near_prices) (defScope s_near_prices) .none kV_near_prices dc_near_prices pm_near_prices an_near_prices cd_near_prices ct_near_prices), sl_near_prices⟩)
    (c_near_prices : W.codeIn K cd_near_prices "near_prices" = true) (k_near_prices : W.keepIn K (.ref f_near_prices) = true)
    (a_Terms___init__ : W.findIn K (.ref C_Terms) "__init__" = some (some (.ref f_Terms___init__))) (i_Terms___init__ : W.isFn K (.ref f_Terms___init__) = true)
    (l_Terms___init__ : K.lookup f_Terms___init__ = some ⟨oc_Terms___init__, od_Terms___init__, .func (W.fnOf "__init__" "Terms.__init__" (defArgs s_Terms___init__) (defBody s_Terms___init__) (defScope s_Terms___init__) (.ref dA_Terms___init__) kV_Terms___init__ dc_Terms___init__ pm_Terms___init__ an_Terms___init__ cd_Terms___init__ ct_Terms___init__), sl_Terms___init__⟩)
    (c_Terms___init__ : W.codeIn K cd_Terms___init__ "Terms.__init__" = true) (k_Terms___init__ : W.keepIn K (.ref f_Terms___init__) = true)
    (dv_Terms___init__ : K.lookup dA_Terms___init__ = some ⟨do_Terms___init__, dd_Terms___init__, .seq #[.int 50 tt_Terms___init__, .none] dn_Terms___init__, ds_Terms___init__⟩)
    (a_Terms_pair_worth : W.findIn K (.ref C_Terms) "pair_worth" = some (some (.ref f_Terms_pair_worth))) (i_Terms_pair_worth : W.isFn K (.ref f_Terms_pair_worth) = true)
    (l_Terms_pair_worth : K.lookup f_Terms_pair_worth = some ⟨oc_Terms_pair_worth, od_Terms_pair_worth, .func (W.fnOf "pair_worth" "Terms.pair_worth" (defArgs s_Terms_pair_worth) (defBody s_Terms_pair_worth) (defScope s_Terms_pair_worth) .none kV_Terms_pair_worth dc_Terms_pair_worth pm_Terms_pair_worth an_Terms_pair_worth cd_Terms_pair_worth ct_Terms_pair_worth), sl_Terms_pair_worth⟩)
    (c_Terms_pair_worth : W.codeIn K cd_Terms_pair_worth "Terms.pair_worth" = true) (k_Terms_pair_worth : W.keepIn K (.ref f_Terms_pair_worth) = true)
    (a_is_place : W.nsIn K mainGlobals "is_place" = some (some (.ref f_is_place)))
    (l_is_place : K.lookup f_is_place = some ⟨oc_is_place, od_is_place, .func (W.fnOf "is_place" "is_place" (defArgs s_is_place) (defBody s_is_place) (defScope s_is_place) .none kV_is_place dc_is_place pm_is_place an_is_place cd_is_place ct_is_place), sl_is_place⟩)
    (c_is_place : W.codeIn K cd_is_place "is_place" = true) (k_is_place : W.keepIn K (.ref f_is_place) = true)
    (a_standing_worth : W.nsIn K mainGlobals "standing_worth" = some (some (.ref f_standing_worth)))
    (l_standing_worth : K.lookup f_standing_worth = some ⟨oc_standing_worth, od_standing_worth, .func (W.fnOf "standing_worth" "standing_worth" (defArgs s_standing_worth) (defBody s_standing_worth) (defScope s_standing_worth) .none kV_standing_worth dc_standing_worth pm_standing_worth an_standing_worth cd_standing_worth ct_standing_worth), sl_standing_worth⟩)
    (c_standing_worth : W.codeIn K cd_standing_worth "standing_worth" = true) (k_standing_worth : W.keepIn K (.ref f_standing_worth) = true)
    (a_price_between : W.nsIn K mainGlobals "price_between" = some (some (.ref f_price_between)))
    (l_price_between : K.lookup f_price_between = some ⟨oc_price_between, od_price_between, .func (W.fnOf "price_between" "price_between" (defArgs s_price_between) (defBody s_price_between) (defScope s_price_between) .none kV_price_between dc_price_between pm_price_between an_price_between cd_price_between ct_price_between), sl_price_between⟩)
    (c_price_between : W.codeIn K cd_price_between "price_between" = true) (k_price_between : W.keepIn K (.ref f_price_between) = true)
    (a_way_row : W.nsIn K mainGlobals "way_row" = some (some (.ref f_way_row)))
    (l_way_row : K.lookup f_way_row = some ⟨oc_way_row, od_way_row, .func (W.fnOf "way_row" "way_row" (defArgs s_way_row) (defBody s_way_row) (defScope s_way_row) .none kV_way_row dc_way_row pm_way_row an_way_row cd_way_row ct_way_row), sl_way_row⟩)
    (c_way_row : W.codeIn K cd_way_row "way_row" = true) (k_way_row : W.keepIn K (.ref f_way_row) = true)
    (a_way_worth : W.nsIn K mainGlobals "way_worth" = some (some (.ref f_way_worth)))
    (l_way_worth : K.lookup f_way_worth = some ⟨oc_way_worth, od_way_worth, .func (W.fnOf "way_worth" "way_worth" (defArgs s_way_worth) (defBody s_way_worth) (defScope s_way_worth) .none kV_way_worth dc_way_worth pm_way_worth an_way_worth cd_way_worth ct_way_worth), sl_way_worth⟩)
    (c_way_worth : W.codeIn K cd_way_worth "way_worth" = true) (k_way_worth : W.keepIn K (.ref f_way_worth) = true)
    (a__law_at : W.nsIn K mainGlobals "_law_at" = some (some (.ref f__law_at)))
    (l__law_at : K.lookup f__law_at = some ⟨oc__law_at, od__law_at, .func (W.fnOf "_law_at" "_law_at" (defArgs s__law_at) (defBody s__law_at) (defScope s__law_at) .none kV__law_at dc__law_at pm__law_at an__law_at cd__law_at ct__law_at), sl__law_at⟩)
    (c__law_at : W.codeIn K cd__law_at "_law_at" = true) (k__law_at : W.keepIn K (.ref f__law_at) = true)
    (a__law_whole : W.nsIn K mainGlobals "_law_whole" = some (some (.ref f__law_whole)))
    (l__law_whole : K.lookup f__law_whole = some ⟨oc__law_whole, od__law_whole, .func (W.fnOf "_law_whole" "_law_whole" (defArgs s__law_whole) (defBody s__law_whole) (defScope s__law_whole) .none kV__law_whole dc__law_whole pm__law_whole an__law_whole cd__law_whole ct__law_whole), sl__law_whole⟩)
    (c__law_whole : W.codeIn K cd__law_whole "_law_whole" = true) (k__law_whole : W.keepIn K (.ref f__law_whole) = true)
    (a__law_bank : W.nsIn K mainGlobals "_law_bank" = some (some (.ref f__law_bank)))
    (l__law_bank : K.lookup f__law_bank = some ⟨oc__law_bank, od__law_bank, .func (W.fnOf "_law_bank" "_law_bank" (defArgs s__law_bank) (defBody s__law_bank) (defScope s__law_bank) .none kV__law_bank dc__law_bank pm__law_bank an__law_bank cd__law_bank ct__law_bank), sl__law_bank⟩)
    (c__law_bank : W.codeIn K cd__law_bank "_law_bank" = true) (k__law_bank : W.keepIn K (.ref f__law_bank) = true)
    (a__law_book : W.nsIn K mainGlobals "_law_book" = some (some (.ref f__law_book)))
    (l__law_book : K.lookup f__law_book = some ⟨oc__law_book, od__law_book, .func (W.fnOf "_law_book" "_law_book" (defArgs s__law_book) (defBody s__law_book) (defScope s__law_book) .none kV__law_book dc__law_book pm__law_book an__law_book cd__law_book ct__law_book), sl__law_book⟩)
    (c__law_book : W.codeIn K cd__law_book "_law_book" = true) (k__law_book : W.keepIn K (.ref f__law_book) = true)
    (a__law_quote : W.nsIn K mainGlobals "_law_quote" = some (some (.ref f__law_quote)))
    (l__law_quote : K.lookup f__law_quote = some ⟨oc__law_quote, od__law_quote, .func (W.fnOf "_law_quote" "_law_quote" (defArgs s__law_quote) (defBody s__law_quote) (defScope s__law_quote) .none kV__law_quote dc__law_quote pm__law_quote an__law_quote cd__law_quote ct__law_quote), sl__law_quote⟩)
    (c__law_quote : W.codeIn K cd__law_quote "_law_quote" = true) (k__law_quote : W.keepIn K (.ref f__law_quote) = true)
    (a__law_numbers : W.nsIn K mainGlobals "_law_numbers" = some (some (.ref f__law_numbers)))
    (l__law_numbers : K.lookup f__law_numbers = some ⟨oc__law_numbers, od__law_numbers, .func (W.fnOf "_law_numbers" "_law_numbers" (defArgs s__law_numbers) (defBody s__law_numbers) (defScope s__law_numbers) .none kV__law_numbers dc__law_numbers pm__law_numbers an__law_numbers cd__law_numbers ct__law_numbers), sl__law_numbers⟩)
    (c__law_numbers : W.codeIn K cd__law_numbers "_law_numbers" = true) (k__law_numbers : W.keepIn K (.ref f__law_numbers) = true)
    (a__law_near : W.nsIn K mainGlobals "_law_near" = some (some (.ref f__law_near)))
    (l__law_near : K.lookup f__law_near = some ⟨oc__law_near, od__law_near, .func (W.fnOf "_law_near" "_law_near" (defArgs s__law_near) (defBody s__law_near) (defScope s__law_near) .none kV__law_near dc__law_near pm__law_near an__law_near cd__law_near ct__law_near), sl__law_near⟩)
    (c__law_near : W.codeIn K cd__law_near "_law_near" = true) (k__law_near : W.keepIn K (.ref f__law_near) = true)
    (a__law_case : W.nsIn K mainGlobals "_law_case" = some (some (.ref f__law_case)))
    (l__law_case : K.lookup f__law_case = some ⟨oc__law_case, od__law_case, .func (W.fnOf "_law_case" "_law_case" (defArgs s__law_case) (defBody s__law_case) (defScope s__law_case) .none kV__law_case dc__law_case pm__law_case an__law_case cd__law_case ct__law_case), sl__law_case⟩)
    (c__law_case : W.codeIn K cd__law_case "_law_case" = true) (k__law_case : W.keepIn K (.ref f__law_case) = true)
    (a__law_pair : W.nsIn K mainGlobals "_law_pair" = some (some (.ref f__law_pair)))
    (l__law_pair : K.lookup f__law_pair = some ⟨oc__law_pair, od__law_pair, .func (W.fnOf "_law_pair" "_law_pair" (defArgs s__law_pair) (defBody s__law_pair) (defScope s__law_pair) .none kV__law_pair dc__law_pair pm__law_pair an__law_pair cd__law_pair ct__law_pair), sl__law_pair⟩)
    (c__law_pair : W.codeIn K cd__law_pair "_law_pair" = true) (k__law_pair : W.keepIn K (.ref f__law_pair) = true)
    (a__law_worth : W.nsIn K mainGlobals "_law_worth" = some (some (.ref f__law_worth)))
    (l__law_worth : K.lookup f__law_worth = some ⟨oc__law_worth, od__law_worth, .func (W.fnOf "_law_worth" "_law_worth" (defArgs s__law_worth) (defBody s__law_worth) (defScope s__law_worth) .none kV__law_worth dc__law_worth pm__law_worth an__law_worth cd__law_worth ct__law_worth), sl__law_worth⟩)
    (c__law_worth : W.codeIn K cd__law_worth "_law_worth" = true) (k__law_worth : W.keepIn K (.ref f__law_worth) = true)
    (a__law_drawn : W.nsIn K mainGlobals "_law_drawn" = some (some (.ref f__law_drawn)))
    (l__law_drawn : K.lookup f__law_drawn = some ⟨oc__law_drawn, od__law_drawn, .func (W.fnOf "_law_drawn" "_law_drawn" (defArgs s__law_drawn) (defBody s__law_drawn) (defScope s__law_drawn) .none kV__law_drawn dc__law_drawn pm__law_drawn an__law_drawn cd__law_drawn ct__law_drawn), sl__law_drawn⟩)
    (c__law_drawn : W.codeIn K cd__law_drawn "_law_drawn" = true) (k__law_drawn : W.keepIn K (.ref f__law_drawn) = true)
    (a__law_row : W.nsIn K mainGlobals "_law_row" = some (some (.ref f__law_row)))
    (l__law_row : K.lookup f__law_row = some ⟨oc__law_row, od__law_row, .func (W.fnOf "_law_row" "_law_row" (defArgs s__law_row) (defBody s__law_row) (defScope s__law_row) .none kV__law_row dc__law_row pm__law_row an__law_row cd__law_row ct__law_row), sl__law_row⟩)
    (c__law_row : W.codeIn K cd__law_row "_law_row" = true) (k__law_row : W.keepIn K (.ref f__law_row) = true)
    (a__law_kind : W.nsIn K mainGlobals "_law_kind" = some (some (.ref f__law_kind)))
    (l__law_kind : K.lookup f__law_kind = some ⟨oc__law_kind, od__law_kind, .func (W.fnOf "_law_kind" "_law_kind" (defArgs s__law_kind) (defBody s__law_kind) (defScope s__law_kind) .none kV__law_kind dc__law_kind pm__law_kind an__law_kind cd__law_kind ct__law_kind), sl__law_kind⟩)
    (c__law_kind : W.codeIn K cd__law_kind "_law_kind" = true) (k__law_kind : W.keepIn K (.ref f__law_kind) = true)
    (a__law_terms : W.nsIn K mainGlobals "_law_terms" = some (some (.ref f__law_terms)))
    (l__law_terms : K.lookup f__law_terms = some ⟨oc__law_terms, od__law_terms, .func (W.fnOf "_law_terms" "_law_terms" (defArgs s__law_terms) (defBody s__law_terms) (defScope s__law_terms) .none kV__law_terms dc__law_terms pm__law_terms an__law_terms cd__law_terms ct__law_terms), sl__law_terms⟩)
    (c__law_terms : W.codeIn K cd__law_terms "_law_terms" = true) (k__law_terms : W.keepIn K (.ref f__law_terms) = true)
    (a__law_is_way : W.nsIn K mainGlobals "_law_is_way" = some (some (.ref f__law_is_way)))
    (l__law_is_way : K.lookup f__law_is_way = some ⟨oc__law_is_way, od__law_is_way, .func (W.fnOf "_law_is_way" "_law_is_way" (defArgs s__law_is_way) (defBody s__law_is_way) (defScope s__law_is_way) .none kV__law_is_way dc__law_is_way pm__law_is_way an__law_is_way cd__law_is_way ct__law_is_way), sl__law_is_way⟩)
    (c__law_is_way : W.codeIn K cd__law_is_way "_law_is_way" = true) (k__law_is_way : W.keepIn K (.ref f__law_is_way) = true)
    (a__law_spoiled : W.nsIn K mainGlobals "_law_spoiled" = some (some (.ref f__law_spoiled)))
    (l__law_spoiled : K.lookup f__law_spoiled = some ⟨oc__law_spoiled, od__law_spoiled, .func (W.fnOf "_law_spoiled" "_law_spoiled" (defArgs s__law_spoiled) (defBody s__law_spoiled) (defScope s__law_spoiled) .none kV__law_spoiled dc__law_spoiled pm__law_spoiled an__law_spoiled cd__law_spoiled ct__law_spoiled), sl__law_spoiled⟩)
    (c__law_spoiled : W.codeIn K cd__law_spoiled "_law_spoiled" = true) (k__law_spoiled : W.keepIn K (.ref f__law_spoiled) = true)
    (a_law : W.nsIn K mainGlobals "law" = some (some (.ref f_law)))
    (l_law : K.lookup f_law = some ⟨oc_law, od_law, .func (W.fnOf "law" "law" (defArgs s_law) (defBody s_law) (defScope s_law) .none kV_law dc_law pm_law an_law cd_law ct_law), sl_law⟩)
    (c_law : W.codeIn K cd_law "law" = true) (k_law : W.keepIn K (.ref f_law) = true)
    (gp_Terms : W.plainGet K C_Terms Str.empty = true) (gh_Terms : W.hasDictIn K C_Terms = true) (go_Terms : W.plainOver K C_Terms = true) (gs_Terms : W.findIn K (.ref C_Terms) "__setattr__" = some (some (.builtin "object.__setattr__"))) (gm_Terms : W.makesIn K C_Terms = true) (gk_Terms : W.keepIn K (.ref C_Terms) = true)
    (na_Terms_same : W.findIn K (.ref C_Terms) "same" = some none)
    (na_Terms_out : W.findIn K (.ref C_Terms) "out" = some none)
    (na_Terms_into : W.findIn K (.ref C_Terms) "into" = some none)
    (na_Terms_least : W.findIn K (.ref C_Terms) "least" = some none)
    (na_Terms_part : W.findIn K (.ref C_Terms) "part" = some none)
    (na_Terms_near : W.findIn K (.ref C_Terms) "near" = some none)
    (na_Terms_prices : W.findIn K (.ref C_Terms) "prices" = some none)
    (z_len : W.nsIn K mainGlobals "len" = some none)
    (z_range : W.nsIn K mainGlobals "range" = some none)
    (z_isinstance : W.nsIn K mainGlobals "isinstance" = some none)
    (z_int : W.nsIn K mainGlobals "int" = some none)
    (z_bool : W.nsIn K mainGlobals "bool" = some none)
    (z_str : W.nsIn K mainGlobals "str" = some none)
    (z_list : W.nsIn K mainGlobals "list" = some none)
    (z_tuple : W.nsIn K mainGlobals "tuple" = some none)
    (z_dict : W.nsIn K mainGlobals "dict" = some none)
    (z_all : W.nsIn K mainGlobals "all" = some none)
    (z_any : W.nsIn K mainGlobals "any" = some none)
    (z_min : W.nsIn K mainGlobals "min" = some none)
    (z_max : W.nsIn K mainGlobals "max" = some none)
    (z_enumerate : W.nsIn K mainGlobals "enumerate" = some none)
    (z_ValueError : W.nsIn K mainGlobals "ValueError" = some none)
    (y_WORD_MOST : W.nsIn K mainGlobals "WORD_MOST" = some (some (.int 12 t_WORD_MOST)))
    (y_WORTH_MOST : W.nsIn K mainGlobals "WORTH_MOST" = some (some (.int 999999 t_WORTH_MOST)))
    (y_NEAR_MOST : W.nsIn K mainGlobals "NEAR_MOST" = some (some (.int 60 t_NEAR_MOST)))
    (y_PART_MOST : W.nsIn K mainGlobals "PART_MOST" = some (some (.int 100 t_PART_MOST)))
    (x_QuoteError : W.nsIn K mainGlobals "QuoteError" = some (some (.ref C_QuoteError)))
    (xe_QuoteError : W.excIn K C_QuoteError [.type "ValueError", .type "Exception", .type "BaseException", .type "object"] "ValueError.__new__" = true)
    (xc_QuoteError : W.findIn K (.ref C_QuoteError) "__class__" = some (some (.builtin "object.__class__"))) (xo_QuoteError : W.mroIn K C_QuoteError (.type "object") = some true) (xb_QuoteError : W.mroIn K C_QuoteError (.type "BaseException") = some true)
    (xg_QuoteError : W.findIn K (.ref C_QuoteError) "__getattribute__" = some (some (.builtin "BaseException.__getattribute__"))) (xn_QuoteError : W.findIn K (.ref C_QuoteError) "__getattr__" = some none) (xt_QuoteError : W.instIn K (.ref C_QuoteError) (.type "tuple") = some false) (xk_QuoteError : W.keepIn K (.ref C_QuoteError) = true)
    (x_BadWord : W.nsIn K mainGlobals "BadWord" = some (some (.ref C_BadWord)))
    (xe_BadWord : W.excIn K C_BadWord [.type "ValueError", .type "Exception", .type "BaseException", .type "object"] "ValueError.__new__" = true)
    (xc_BadWord : W.findIn K (.ref C_BadWord) "__class__" = some (some (.builtin "object.__class__"))) (xo_BadWord : W.mroIn K C_BadWord (.type "object") = some true) (xb_BadWord : W.mroIn K C_BadWord (.type "BaseException") = some true)
    (xg_BadWord : W.findIn K (.ref C_BadWord) "__getattribute__" = some (some (.builtin "BaseException.__getattribute__"))) (xn_BadWord : W.findIn K (.ref C_BadWord) "__getattr__" = some none) (xt_BadWord : W.instIn K (.ref C_BadWord) (.type "tuple") = some false) (xk_BadWord : W.keepIn K (.ref C_BadWord) = true)
    (x_BadBook : W.nsIn K mainGlobals "BadBook" = some (some (.ref C_BadBook)))
    (xe_BadBook : W.excIn K C_BadBook [.type "ValueError", .type "Exception", .type "BaseException", .type "object"] "ValueError.__new__" = true)
    (xc_BadBook : W.findIn K (.ref C_BadBook) "__class__" = some (some (.builtin "object.__class__"))) (xo_BadBook : W.mroIn K C_BadBook (.type "object") = some true) (xb_BadBook : W.mroIn K C_BadBook (.type "BaseException") = some true)
    (xg_BadBook : W.findIn K (.ref C_BadBook) "__getattribute__" = some (some (.builtin "BaseException.__getattribute__"))) (xn_BadBook : W.findIn K (.ref C_BadBook) "__getattr__" = some none) (xt_BadBook : W.instIn K (.ref C_BadBook) (.type "tuple") = some false) (xk_BadBook : W.keepIn K (.ref C_BadBook) = true)
    (x_BadTerms : W.nsIn K mainGlobals "BadTerms" = some (some (.ref C_BadTerms)))
    (xe_BadTerms : W.excIn K C_BadTerms [.type "ValueError", .type "Exception", .type "BaseException", .type "object"] "ValueError.__new__" = true)
    (xc_BadTerms : W.findIn K (.ref C_BadTerms) "__class__" = some (some (.builtin "object.__class__"))) (xo_BadTerms : W.mroIn K C_BadTerms (.type "object") = some true) (xb_BadTerms : W.mroIn K C_BadTerms (.type "BaseException") = some true)
    (xg_BadTerms : W.findIn K (.ref C_BadTerms) "__getattribute__" = some (some (.builtin "BaseException.__getattribute__"))) (xn_BadTerms : W.findIn K (.ref C_BadTerms) "__getattr__" = some none) (xt_BadTerms : W.instIn K (.ref C_BadTerms) (.type "tuple") = some false) (xk_BadTerms : W.keepIn K (.ref C_BadTerms) = true)
    (x_BadNear : W.nsIn K mainGlobals "BadNear" = some (some (.ref C_BadNear)))
    (xe_BadNear : W.excIn K C_BadNear [.type "ValueError", .type "Exception", .type "BaseException", .type "object"] "ValueError.__new__" = true)
    (xc_BadNear : W.findIn K (.ref C_BadNear) "__class__" = some (some (.builtin "object.__class__"))) (xo_BadNear : W.mroIn K C_BadNear (.type "object") = some true) (xb_BadNear : W.mroIn K C_BadNear (.type "BaseException") = some true)
    (xg_BadNear : W.findIn K (.ref C_BadNear) "__getattribute__" = some (some (.builtin "BaseException.__getattribute__"))) (xn_BadNear : W.findIn K (.ref C_BadNear) "__getattr__" = some none) (xt_BadNear : W.instIn K (.ref C_BadNear) (.type "tuple") = some false) (xk_BadNear : W.keepIn K (.ref C_BadNear) = true)
    (x_BadWay : W.nsIn K mainGlobals "BadWay" = some (some (.ref C_BadWay)))
    (xe_BadWay : W.excIn K C_BadWay [.type "ValueError", .type "Exception", .type "BaseException", .type "object"] "ValueError.__new__" = true)
    (xc_BadWay : W.findIn K (.ref C_BadWay) "__class__" = some (some (.builtin "object.__class__"))) (xo_BadWay : W.mroIn K C_BadWay (.type "object") = some true) (xb_BadWay : W.mroIn K C_BadWay (.type "BaseException") = some true)
    (xg_BadWay : W.findIn K (.ref C_BadWay) "__getattribute__" = some (some (.builtin "BaseException.__getattribute__"))) (xn_BadWay : W.findIn K (.ref C_BadWay) "__getattr__" = some none) (xt_BadWay : W.instIn K (.ref C_BadWay) (.type "tuple") = some false) (xk_BadWay : W.keepIn K (.ref C_BadWay) = true)
    (x_BadName : W.nsIn K mainGlobals "BadName" = some (some (.ref C_BadName)))
    (xe_BadName : W.excIn K C_BadName [.type "ValueError", .type "Exception", .type "BaseException", .type "object"] "ValueError.__new__" = true)
    (xc_BadName : W.findIn K (.ref C_BadName) "__class__" = some (some (.builtin "object.__class__"))) (xo_BadName : W.mroIn K C_BadName (.type "object") = some true) (xb_BadName : W.mroIn K C_BadName (.type "BaseException") = some true)
    (xg_BadName : W.findIn K (.ref C_BadName) "__getattribute__" = some (some (.builtin "BaseException.__getattribute__"))) (xn_BadName : W.findIn K (.ref C_BadName) "__getattr__" = some none) (xt_BadName : W.instIn K (.ref C_BadName) (.type "tuple") = some false) (xk_BadName : W.keepIn K (.ref C_BadName) = true)
    (x_BadYear : W.nsIn K mainGlobals "BadYear" = some (some (.ref C_BadYear)))
    (xe_BadYear : W.excIn K C_BadYear [.type "ValueError", .type "Exception", .type "BaseException", .type "object"] "ValueError.__new__" = true)
    (xc_BadYear : W.findIn K (.ref C_BadYear) "__class__" = some (some (.builtin "object.__class__"))) (xo_BadYear : W.mroIn K C_BadYear (.type "object") = some true) (xb_BadYear : W.mroIn K C_BadYear (.type "BaseException") = some true)
    (xg_BadYear : W.findIn K (.ref C_BadYear) "__getattribute__" = some (some (.builtin "BaseException.__getattribute__"))) (xn_BadYear : W.findIn K (.ref C_BadYear) "__getattr__" = some none) (xt_BadYear : W.instIn K (.ref C_BadYear) (.type "tuple") = some false) (xk_BadYear : W.keepIn K (.ref C_BadYear) = true)
    (x_NameTaken : W.nsIn K mainGlobals "NameTaken" = some (some (.ref C_NameTaken)))
    (xe_NameTaken : W.excIn K C_NameTaken [.type "ValueError", .type "Exception", .type "BaseException", .type "object"] "ValueError.__new__" = true)
    (xc_NameTaken : W.findIn K (.ref C_NameTaken) "__class__" = some (some (.builtin "object.__class__"))) (xo_NameTaken : W.mroIn K C_NameTaken (.type "object") = some true) (xb_NameTaken : W.mroIn K C_NameTaken (.type "BaseException") = some true)
    (xg_NameTaken : W.findIn K (.ref C_NameTaken) "__getattribute__" = some (some (.builtin "BaseException.__getattribute__"))) (xn_NameTaken : W.findIn K (.ref C_NameTaken) "__getattr__" = some none) (xt_NameTaken : W.instIn K (.ref C_NameTaken) (.type "tuple") = some false) (xk_NameTaken : W.keepIn K (.ref C_NameTaken) = true)
    (x_Full : W.nsIn K mainGlobals "Full" = some (some (.ref C_Full)))
    (xe_Full : W.excIn K C_Full [.type "ValueError", .type "Exception", .type "BaseException", .type "object"] "ValueError.__new__" = true)
    (xc_Full : W.findIn K (.ref C_Full) "__class__" = some (some (.builtin "object.__class__"))) (xo_Full : W.mroIn K C_Full (.type "object") = some true) (xb_Full : W.mroIn K C_Full (.type "BaseException") = some true)
    (xg_Full : W.findIn K (.ref C_Full) "__getattribute__" = some (some (.builtin "BaseException.__getattribute__"))) (xn_Full : W.findIn K (.ref C_Full) "__getattr__" = some none) (xt_Full : W.instIn K (.ref C_Full) (.type "tuple") = some false) (xk_Full : W.keepIn K (.ref C_Full) = true)
    (x_TooMany : W.nsIn K mainGlobals "TooMany" = some (some (.ref C_TooMany)))
    (xe_TooMany : W.excIn K C_TooMany [.type "ValueError", .type "Exception", .type "BaseException", .type "object"] "ValueError.__new__" = true)
    (xc_TooMany : W.findIn K (.ref C_TooMany) "__class__" = some (some (.builtin "object.__class__"))) (xo_TooMany : W.mroIn K C_TooMany (.type "object") = some true) (xb_TooMany : W.mroIn K C_TooMany (.type "BaseException") = some true)
    (xg_TooMany : W.findIn K (.ref C_TooMany) "__getattribute__" = some (some (.builtin "BaseException.__getattribute__"))) (xn_TooMany : W.findIn K (.ref C_TooMany) "__getattr__" = some none) (xt_TooMany : W.instIn K (.ref C_TooMany) (.type "tuple") = some false) (xk_TooMany : W.keepIn K (.ref C_TooMany) = true)
    (x_NoBook : W.nsIn K mainGlobals "NoBook" = some (some (.ref C_NoBook)))
    (xe_NoBook : W.excIn K C_NoBook [.type "ValueError", .type "Exception", .type "BaseException", .type "object"] "ValueError.__new__" = true)
    (xc_NoBook : W.findIn K (.ref C_NoBook) "__class__" = some (some (.builtin "object.__class__"))) (xo_NoBook : W.mroIn K C_NoBook (.type "object") = some true) (xb_NoBook : W.mroIn K C_NoBook (.type "BaseException") = some true)
    (xg_NoBook : W.findIn K (.ref C_NoBook) "__getattribute__" = some (some (.builtin "BaseException.__getattribute__"))) (xn_NoBook : W.findIn K (.ref C_NoBook) "__getattr__" = some none) (xt_NoBook : W.instIn K (.ref C_NoBook) (.type "tuple") = some false) (xk_NoBook : W.keepIn K (.ref C_NoBook) = true)
    (x_NoFinding : W.nsIn K mainGlobals "NoFinding" = some (some (.ref C_NoFinding)))
    (xe_NoFinding : W.excIn K C_NoFinding [.type "ValueError", .type "Exception", .type "BaseException", .type "object"] "ValueError.__new__" = true)
    (xc_NoFinding : W.findIn K (.ref C_NoFinding) "__class__" = some (some (.builtin "object.__class__"))) (xo_NoFinding : W.mroIn K C_NoFinding (.type "object") = some true) (xb_NoFinding : W.mroIn K C_NoFinding (.type "BaseException") = some true)
    (xg_NoFinding : W.findIn K (.ref C_NoFinding) "__getattribute__" = some (some (.builtin "BaseException.__getattribute__"))) (xn_NoFinding : W.findIn K (.ref C_NoFinding) "__getattr__" = some none) (xt_NoFinding : W.instIn K (.ref C_NoFinding) (.type "tuple") = some false) (xk_NoFinding : W.keepIn K (.ref C_NoFinding) = true)
    (x_HasLeft : W.nsIn K mainGlobals "HasLeft" = some (some (.ref C_HasLeft)))
    (xe_HasLeft : W.excIn K C_HasLeft [.type "ValueError", .type "Exception", .type "BaseException", .type "object"] "ValueError.__new__" = true)
    (xc_HasLeft : W.findIn K (.ref C_HasLeft) "__class__" = some (some (.builtin "object.__class__"))) (xo_HasLeft : W.mroIn K C_HasLeft (.type "object") = some true) (xb_HasLeft : W.mroIn K C_HasLeft (.type "BaseException") = some true)
    (xg_HasLeft : W.findIn K (.ref C_HasLeft) "__getattribute__" = some (some (.builtin "BaseException.__getattribute__"))) (xn_HasLeft : W.findIn K (.ref C_HasLeft) "__getattr__" = some none) (xt_HasLeft : W.instIn K (.ref C_HasLeft) (.type "tuple") = some false) (xk_HasLeft : W.keepIn K (.ref C_HasLeft) = true)
    (x_BadSearch : W.nsIn K mainGlobals "BadSearch" = some (some (.ref C_BadSearch)))
    (xe_BadSearch : W.excIn K C_BadSearch [.type "ValueError", .type "Exception", .type "BaseException", .type "object"] "ValueError.__new__" = true)
    (xc_BadSearch : W.findIn K (.ref C_BadSearch) "__class__" = some (some (.builtin "object.__class__"))) (xo_BadSearch : W.mroIn K C_BadSearch (.type "object") = some true) (xb_BadSearch : W.mroIn K C_BadSearch (.type "BaseException") = some true)
    (xg_BadSearch : W.findIn K (.ref C_BadSearch) "__getattribute__" = some (some (.builtin "BaseException.__getattribute__"))) (xn_BadSearch : W.findIn K (.ref C_BadSearch) "__getattr__" = some none) (xt_BadSearch : W.instIn K (.ref C_BadSearch) (.type "tuple") = some false) (xk_BadSearch : W.keepIn K (.ref C_BadSearch) = true)
    (mq_BadWay : W.mroIn K C_BadWay (.ref C_QuoteError) = some true)
    (ft_BadWay_0 : W.kitOne K (.ref C_BadWay) (.ref C_BadWord) = some false)
    (ft_BadWay_1 : W.kitOne K (.ref C_BadWay) (.ref C_BadBook) = some false)
    (ft_BadWay_2 : W.kitOne K (.ref C_BadWay) (.ref C_BadTerms) = some false)
    (ft_BadWay_3 : W.kitOne K (.ref C_BadWay) (.ref C_BadNear) = some false)
    (ft_BadWay_4 : W.kitOne K (.ref C_BadWay) (.ref C_BadWay) = some true)
    (ft_BadWay_5 : W.kitOne K (.ref C_BadWay) (.ref C_BadName) = some false)
    (ft_BadWay_6 : W.kitOne K (.ref C_BadWay) (.ref C_BadYear) = some false)
    (ft_BadWay_7 : W.kitOne K (.ref C_BadWay) (.ref C_NameTaken) = some false)
    (ft_BadWay_8 : W.kitOne K (.ref C_BadWay) (.ref C_Full) = some false)
    (ft_BadWay_9 : W.kitOne K (.ref C_BadWay) (.ref C_TooMany) = some false)
    (ft_BadWay_10 : W.kitOne K (.ref C_BadWay) (.ref C_NoBook) = some false)
    (ft_BadWay_11 : W.kitOne K (.ref C_BadWay) (.ref C_NoFinding) = some false)
    (ft_BadWay_12 : W.kitOne K (.ref C_BadWay) (.ref C_HasLeft) = some false)
    (ft_BadWay_13 : W.kitOne K (.ref C_BadWay) (.ref C_BadSearch) = some false)
    (ft_BadWay_V : W.kitOne K (.ref C_BadWay) (.type "ValueError") = some true)
    : ∃ fd : FuncData, (∀ (s : Shared) (v : Value), BindsTo s fd ⟨[v], []⟩ [("_law_script", v)]) ∧ ∀ base : Heap, K.In base → base.Ns mainGlobals mg → FnOk l.prog w K mg base (CXF l.prog w) true 8 fa fd ["_law_script"] (spLaw K) := by
  have e := hfa.symm.trans (W.mg_of X G a_law)
  cases e
  have T : TB mg := ⟨W.mg_none_of X G z_len, W.mg_none_of X G z_range, W.mg_none_of X G z_isinstance, W.mg_none_of X G z_int, W.mg_none_of X G z_bool, W.mg_none_of X G z_str, W.mg_none_of X G z_list, W.mg_none_of X G z_tuple, W.mg_none_of X G z_dict, W.mg_none_of X G z_all, W.mg_none_of X G z_any, W.mg_none_of X G z_min, W.mg_none_of X G z_max, W.mg_none_of X G z_enumerate, W.mg_none_of X G z_ValueError⟩
  have c_WORD_MOST : Con mg "WORD_MOST" (.int 12) := ⟨_, W.mg_of X G y_WORD_MOST, _, rfl⟩
  have c_WORTH_MOST : Con mg "WORTH_MOST" (.int 999999) := ⟨_, W.mg_of X G y_WORTH_MOST, _, rfl⟩
  have c_NEAR_MOST : Con mg "NEAR_MOST" (.int 60) := ⟨_, W.mg_of X G y_NEAR_MOST, _, rfl⟩
  have c_PART_MOST : Con mg "PART_MOST" (.int 100) := ⟨_, W.mg_of X G y_PART_MOST, _, rfl⟩
  have e_QuoteError : Er K mg "QuoteError" C_QuoteError := ⟨W.mg_of X G x_QuoteError, xe_QuoteError, xc_QuoteError, xo_QuoteError, xb_QuoteError, xg_QuoteError, xn_QuoteError, xt_QuoteError, xk_QuoteError⟩
  have e_BadWord : Er K mg "BadWord" C_BadWord := ⟨W.mg_of X G x_BadWord, xe_BadWord, xc_BadWord, xo_BadWord, xb_BadWord, xg_BadWord, xn_BadWord, xt_BadWord, xk_BadWord⟩
  have e_BadBook : Er K mg "BadBook" C_BadBook := ⟨W.mg_of X G x_BadBook, xe_BadBook, xc_BadBook, xo_BadBook, xb_BadBook, xg_BadBook, xn_BadBook, xt_BadBook, xk_BadBook⟩
  have e_BadTerms : Er K mg "BadTerms" C_BadTerms := ⟨W.mg_of X G x_BadTerms, xe_BadTerms, xc_BadTerms, xo_BadTerms, xb_BadTerms, xg_BadTerms, xn_BadTerms, xt_BadTerms, xk_BadTerms⟩
  have e_BadNear : Er K mg "BadNear" C_BadNear := ⟨W.mg_of X G x_BadNear, xe_BadNear, xc_BadNear, xo_BadNear, xb_BadNear, xg_BadNear, xn_BadNear, xt_BadNear, xk_BadNear⟩
  have e_BadWay : Er K mg "BadWay" C_BadWay := ⟨W.mg_of X G x_BadWay, xe_BadWay, xc_BadWay, xo_BadWay, xb_BadWay, xg_BadWay, xn_BadWay, xt_BadWay, xk_BadWay⟩
  have e_BadName : Er K mg "BadName" C_BadName := ⟨W.mg_of X G x_BadName, xe_BadName, xc_BadName, xo_BadName, xb_BadName, xg_BadName, xn_BadName, xt_BadName, xk_BadName⟩
  have e_BadYear : Er K mg "BadYear" C_BadYear := ⟨W.mg_of X G x_BadYear, xe_BadYear, xc_BadYear, xo_BadYear, xb_BadYear, xg_BadYear, xn_BadYear, xt_BadYear, xk_BadYear⟩
  have e_NameTaken : Er K mg "NameTaken" C_NameTaken := ⟨W.mg_of X G x_NameTaken, xe_NameTaken, xc_NameTaken, xo_NameTaken, xb_NameTaken, xg_NameTaken, xn_NameTaken, xt_NameTaken, xk_NameTaken⟩
  have e_Full : Er K mg "Full" C_Full := ⟨W.mg_of X G x_Full, xe_Full, xc_Full, xo_Full, xb_Full, xg_Full, xn_Full, xt_Full, xk_Full⟩
  have e_TooMany : Er K mg "TooMany" C_TooMany := ⟨W.mg_of X G x_TooMany, xe_TooMany, xc_TooMany, xo_TooMany, xb_TooMany, xg_TooMany, xn_TooMany, xt_TooMany, xk_TooMany⟩
  have e_NoBook : Er K mg "NoBook" C_NoBook := ⟨W.mg_of X G x_NoBook, xe_NoBook, xc_NoBook, xo_NoBook, xb_NoBook, xg_NoBook, xn_NoBook, xt_NoBook, xk_NoBook⟩
  have e_NoFinding : Er K mg "NoFinding" C_NoFinding := ⟨W.mg_of X G x_NoFinding, xe_NoFinding, xc_NoFinding, xo_NoFinding, xb_NoFinding, xg_NoFinding, xn_NoFinding, xt_NoFinding, xk_NoFinding⟩
  have e_HasLeft : Er K mg "HasLeft" C_HasLeft := ⟨W.mg_of X G x_HasLeft, xe_HasLeft, xc_HasLeft, xo_HasLeft, xb_HasLeft, xg_HasLeft, xn_HasLeft, xt_HasLeft, xk_HasLeft⟩
  have e_BadSearch : Er K mg "BadSearch" C_BadSearch := ⟨W.mg_of X G x_BadSearch, xe_BadSearch, xc_BadSearch, xo_BadSearch, xb_BadSearch, xg_BadSearch, xn_BadSearch, xt_BadSearch, xk_BadSearch⟩
  have m_Terms := W.mg_of X G g_Terms
  have cl_Terms : Cls K C_Terms := ⟨gp_Terms, gh_Terms, go_Terms, gs_Terms⟩
  have Tc : TermsC K C_Terms := ⟨cl_Terms, na_Terms_same, na_Terms_out, na_Terms_into, na_Terms_least, na_Terms_part, na_Terms_near, na_Terms_prices⟩
  have fit_BadWay : Fits K C_BadWay [C_BadWord, C_BadBook, C_BadTerms, C_BadNear, C_BadWay, C_BadName, C_BadYear, C_NameTaken, C_Full, C_TooMany, C_NoBook, C_NoFinding, C_HasLeft, C_BadSearch] 4 := Fits.mk ft_BadWay_0 ft_BadWay_1 ft_BadWay_2 ft_BadWay_3 ft_BadWay_4 ft_BadWay_5 ft_BadWay_6 ft_BadWay_7 ft_BadWay_8 ft_BadWay_9 ft_BadWay_10 ft_BadWay_11 ft_BadWay_12 ft_BadWay_13 ft_BadWay_V
  refine ⟨W.fnOf "law" "law" (defArgs s_law) (defBody s_law) (defScope s_law) .none kV_law dc_law pm_law an_law cd_law ct_law, fun s v => .of_eq rfl, fun base _ _ => ?_⟩
  have F_is_small_letter := fun_mk (st := s_is_small_letter) l_is_small_letter c_is_small_letter k_is_small_letter
  have b_is_small_letter := F_is_small_letter.binds (ps := ["sign"]) fun _ _ _ _ _ _ us hl => on1 (P := fun us => bindArgs _ ⟨us, []⟩ = pure (List.zip _ us)) (fun _ => rfl) us hl
  have D_is_small_letter := isDef_mk (P := l.prog) (w := w) (base := base) F_is_small_letter (W.mg_of X G a_is_small_letter) b_is_small_letter (ok_is_small_letter F_is_small_letter T)
  have F_is_word := fun_mk (st := s_is_word) l_is_word c_is_word k_is_word
  have b_is_word := F_is_word.binds (ps := ["text"]) fun _ _ _ _ _ _ us hl => on1 (P := fun us => bindArgs _ ⟨us, []⟩ = pure (List.zip _ us)) (fun _ => rfl) us hl
  have D_is_word := isDef_mk (P := l.prog) (w := w) (base := base) F_is_word (W.mg_of X G a_is_word) b_is_word (ok_is_word F_is_word T c_WORD_MOST D_is_small_letter)
  have F_is_between := fun_mk (st := s_is_between) l_is_between c_is_between k_is_between
  have b_is_between := F_is_between.binds (ps := ["low", "number", "high"]) fun _ _ _ _ _ _ us hl => on3 (P := fun us => bindArgs _ ⟨us, []⟩ = pure (List.zip _ us)) (fun _ _ _ => rfl) us hl
  have D_is_between := isDef_mk (P := l.prog) (w := w) (base := base) F_is_between (W.mg_of X G a_is_between) b_is_between (ok_is_between F_is_between T)
  have F_check_number := fun_mk (st := s_check_number) l_check_number c_check_number k_check_number
  have b_check_number := F_check_number.binds (ps := ["name", "number", "low", "high"]) fun _ _ _ _ _ _ us hl => on4 (P := fun us => bindArgs _ ⟨us, []⟩ = pure (List.zip _ us)) (fun _ _ _ _ => rfl) us hl
  have D_check_number := isDef_mk (P := l.prog) (w := w) (base := base) F_check_number (W.mg_of X G a_check_number) b_check_number (ok_check_number F_check_number T D_is_between e_BadTerms)
  have F_check_near_form := fun_mk (st := s_check_near_form) l_check_near_form c_check_near_form k_check_near_form
  have b_check_near_form := F_check_near_form.binds (ps := ["x", "y", "price"]) fun _ _ _ _ _ _ us hl => on3 (P := fun us => bindArgs _ ⟨us, []⟩ = pure (List.zip _ us)) (fun _ _ _ => rfl) us hl
  have D_check_near_form := isDef_mk (P := l.prog) (w := w) (base := base) F_check_near_form (W.mg_of X G a_check_near_form) b_check_near_form (ok_check_near_form F_check_near_form T c_WORTH_MOST D_is_word D_is_between e_BadNear)
  have F_near_prices := fun_mk (st := s_near_prices) l_near_prices c_near_prices k_near_prices
  have b_near_prices := F_near_prices.binds (ps := ["near"]) fun _ _ _ _ _ _ us hl => on1 (P := fun us => bindArgs _ ⟨us, []⟩ = pure (List.zip _ us)) (fun _ => rfl) us hl
  have D_near_prices := isDef_mk (P := l.prog) (w := w) (base := base) F_near_prices (W.mg_of X G a_near_prices) b_near_prices (ok_near_prices F_near_prices T c_NEAR_MOST D_check_near_form e_BadNear)
  have F_Terms___init__ := funD_mk (st := s_Terms___init__) l_Terms___init__ c_Terms___init__ k_Terms___init__
  have O_Terms___init__ := ok_Terms___init__ (P := l.prog) (w := w) (base := base) F_Terms___init__ T c_WORTH_MOST c_PART_MOST D_check_number D_near_prices Tc
  have b_N6_Terms : Binds K (W.fnOf "__init__" "Terms.__init__" (defArgs s_Terms___init__) (defBody s_Terms___init__) (defScope s_Terms___init__) (.ref dA_Terms___init__) kV_Terms___init__ dc_Terms___init__ pm_Terms___init__ an_Terms___init__ cd_Terms___init__ ct_Terms___init__) ["self", "same", "out", "into", "least", "part", "near"] [] := fun s us hK hl => by
    have hl2 : us.length = 7 := by simpa using hl
    match us, hl2 with | [_, _, _, _, _, _, _], _ => exact BindsTo.of_defaults rfl (hK _ _ dv_Terms___init__) rfl rfl rfl
  have N6_Terms : IsNew l.prog w K mg base true 5 "Terms" C_Terms ["self", "same", "out", "into", "least", "part", "near"] [] (sp_init C_Terms C_BadTerms C_BadNear) := isNew_mk O_Terms___init__ ⟨gm_Terms, a_Terms___init__, i_Terms___init__, gk_Terms⟩ m_Terms b_N6_Terms (.nil)
  have F_Terms_pair_worth := funD_mk (st := s_Terms_pair_worth) l_Terms_pair_worth c_Terms_pair_worth k_Terms_pair_worth
  have O_Terms_pair_worth := ok_Terms_pair_worth (P := l.prog) (w := w) (base := base) F_Terms_pair_worth T Tc
  have b_Terms_pair_worth : Binds K (W.fnOf "pair_worth" "Terms.pair_worth" (defArgs s_Terms_pair_worth) (defBody s_Terms_pair_worth) (defScope s_Terms_pair_worth) .none kV_Terms_pair_worth dc_Terms_pair_worth pm_Terms_pair_worth an_Terms_pair_worth cd_Terms_pair_worth ct_Terms_pair_worth) ["self", "x", "y"] [] := .all fun us hl => on3 (P := fun us => bindArgs _ ⟨us, []⟩ = pure (List.zip _ us)) (fun _ _ _ => rfl) us hl
  have M_Terms_pair_worth : IsMeth l.prog w K mg base true 1 C_Terms "pair_worth" ["self", "x", "y"] (sp_pair C_Terms) := isMeth_mk O_Terms_pair_worth ⟨a_Terms_pair_worth, i_Terms_pair_worth, k_Terms_pair_worth⟩ b_Terms_pair_worth cl_Terms
  have F_is_place := fun_mk (st := s_is_place) l_is_place c_is_place k_is_place
  have b_is_place := F_is_place.binds (ps := ["place", "words"]) fun _ _ _ _ _ _ us hl => on2 (P := fun us => bindArgs _ ⟨us, []⟩ = pure (List.zip _ us)) (fun _ _ => rfl) us hl
  have D_is_place := isDef_mk (P := l.prog) (w := w) (base := base) F_is_place (W.mg_of X G a_is_place) b_is_place (ok_is_place F_is_place T)
  have F_standing_worth := fun_mk (st := s_standing_worth) l_standing_worth c_standing_worth k_standing_worth
  have b_standing_worth := F_standing_worth.binds (ps := ["first", "second", "terms", "pair"]) fun _ _ _ _ _ _ us hl => on4 (P := fun us => bindArgs _ ⟨us, []⟩ = pure (List.zip _ us)) (fun _ _ _ _ => rfl) us hl
  have D_standing_worth := isDef_mk (P := l.prog) (w := w) (base := base) F_standing_worth (W.mg_of X G a_standing_worth) b_standing_worth (ok_standing_worth F_standing_worth T D_is_place M_Terms_pair_worth Tc e_BadWay)
  have F_price_between := fun_mk (st := s_price_between) l_price_between c_price_between k_price_between
  have b_price_between := F_price_between.binds (ps := ["terms", "pair", "later"]) fun _ _ _ _ _ _ us hl => on3 (P := fun us => bindArgs _ ⟨us, []⟩ = pure (List.zip _ us)) (fun _ _ _ => rfl) us hl
  have D_price_between := isDef_mk (P := l.prog) (w := w) (base := base) F_price_between (W.mg_of X G a_price_between) b_price_between (ok_price_between F_price_between T Tc e_BadWay)
  have F_way_row := fun_mk (st := s_way_row) l_way_row c_way_row k_way_row
  have b_way_row := F_way_row.binds (ps := ["first", "second", "terms", "way"]) fun _ _ _ _ _ _ us hl => on4 (P := fun us => bindArgs _ ⟨us, []⟩ = pure (List.zip _ us)) (fun _ _ _ _ => rfl) us hl
  have D_way_row := isDef_mk (P := l.prog) (w := w) (base := base) F_way_row (W.mg_of X G a_way_row) b_way_row (ok_way_row F_way_row T D_standing_worth D_price_between e_BadWay)
  have F_way_worth := fun_mk (st := s_way_worth) l_way_worth c_way_worth k_way_worth
  have b_way_worth := F_way_worth.binds (ps := ["first", "second", "terms", "way"]) fun _ _ _ _ _ _ us hl => on4 (P := fun us => bindArgs _ ⟨us, []⟩ = pure (List.zip _ us)) (fun _ _ _ _ => rfl) us hl
  have D_way_worth := isDef_mk (P := l.prog) (w := w) (base := base) F_way_worth (W.mg_of X G a_way_worth) b_way_worth (ok_way_worth F_way_worth T D_way_row)
  have F__law_at := fun_mk (st := s__law_at) l__law_at c__law_at k__law_at
  have b__law_at := F__law_at.binds (ps := ["_law_script", "_law_k"]) fun _ _ _ _ _ _ us hl => on2 (P := fun us => bindArgs _ ⟨us, []⟩ = pure (List.zip _ us)) (fun _ _ => rfl) us hl
  have D__law_at := isDef_mk (P := l.prog) (w := w) (base := base) F__law_at (W.mg_of X G a__law_at) b__law_at (ok__law_at F__law_at T)
  have F__law_whole := fun_mk (st := s__law_whole) l__law_whole c__law_whole k__law_whole
  have b__law_whole := F__law_whole.binds (ps := ["_law_found"]) fun _ _ _ _ _ _ us hl => on1 (P := fun us => bindArgs _ ⟨us, []⟩ = pure (List.zip _ us)) (fun _ => rfl) us hl
  have D__law_whole := isDef_mk (P := l.prog) (w := w) (base := base) F__law_whole (W.mg_of X G a__law_whole) b__law_whole (ok__law_whole F__law_whole T)
  have F__law_bank := fun_mk (st := s__law_bank) l__law_bank c__law_bank k__law_bank
  have b__law_bank := F__law_bank.binds (ps := ["_law_cell", "_law_other", "_law_many"]) fun _ _ _ _ _ _ us hl => on3 (P := fun us => bindArgs _ ⟨us, []⟩ = pure (List.zip _ us)) (fun _ _ _ => rfl) us hl
  have D__law_bank := isDef_mk (P := l.prog) (w := w) (base := base) F__law_bank (W.mg_of X G a__law_bank) b__law_bank (ok__law_bank F__law_bank T)
  have F__law_book := fun_mk (st := s__law_book) l__law_book c__law_book k__law_book
  have b__law_book := F__law_book.binds (ps := ["_law_script", "_law_cell", "_law_spot", "_law_many", "_law_bank_here"]) fun _ _ _ _ _ _ us hl => on5 (P := fun us => bindArgs _ ⟨us, []⟩ = pure (List.zip _ us)) (fun _ _ _ _ _ => rfl) us hl
  have D__law_book := isDef_mk (P := l.prog) (w := w) (base := base) F__law_book (W.mg_of X G a__law_book) b__law_book (ok__law_book F__law_book T D__law_at)
  have F__law_quote := fun_mk (st := s__law_quote) l__law_quote c__law_quote k__law_quote
  have b__law_quote := F__law_quote.binds (ps := ["_law_script", "_law_cell", "_law_spot", "_law_many", "_law_first", "_law_bank_here"]) fun _ _ _ _ _ _ us hl => on6 (P := fun us => bindArgs _ ⟨us, []⟩ = pure (List.zip _ us)) (fun _ _ _ _ _ _ => rfl) us hl
  have D__law_quote := isDef_mk (P := l.prog) (w := w) (base := base) F__law_quote (W.mg_of X G a__law_quote) b__law_quote (ok__law_quote F__law_quote T D__law_at)
  have F__law_numbers := fun_mk (st := s__law_numbers) l__law_numbers c__law_numbers k__law_numbers
  have b__law_numbers := F__law_numbers.binds (ps := ["_law_script", "_law_spot"]) fun _ _ _ _ _ _ us hl => on2 (P := fun us => bindArgs _ ⟨us, []⟩ = pure (List.zip _ us)) (fun _ _ => rfl) us hl
  have D__law_numbers := isDef_mk (P := l.prog) (w := w) (base := base) F__law_numbers (W.mg_of X G a__law_numbers) b__law_numbers (ok__law_numbers F__law_numbers T D__law_at)
  have F__law_near := fun_mk (st := s__law_near) l__law_near c__law_near k__law_near
  have b__law_near := F__law_near.binds (ps := ["_law_cell", "_law_bank_here", "_law_same"]) fun _ _ _ _ _ _ us hl => on3 (P := fun us => bindArgs _ ⟨us, []⟩ = pure (List.zip _ us)) (fun _ _ _ => rfl) us hl
  have D__law_near := isDef_mk (P := l.prog) (w := w) (base := base) F__law_near (W.mg_of X G a__law_near) b__law_near (ok__law_near F__law_near T)
  have F__law_case := fun_mk (st := s__law_case) l__law_case c__law_case k__law_case
  have b__law_case := F__law_case.binds (ps := ["_law_script", "_law_most"]) fun _ _ _ _ _ _ us hl => on2 (P := fun us => bindArgs _ ⟨us, []⟩ = pure (List.zip _ us)) (fun _ _ => rfl) us hl
  have D__law_case := isDef_mk (P := l.prog) (w := w) (base := base) F__law_case (W.mg_of X G a__law_case) b__law_case (ok__law_case F__law_case T D__law_at D__law_bank D__law_book D__law_quote D__law_numbers D__law_near)
  have F__law_pair := fun_mk (st := s__law_pair) l__law_pair c__law_pair k__law_pair
  have b__law_pair := F__law_pair.binds (ps := ["_law_x", "_law_y", "_law_same", "_law_near_here"]) fun _ _ _ _ _ _ us hl => on4 (P := fun us => bindArgs _ ⟨us, []⟩ = pure (List.zip _ us)) (fun _ _ _ _ => rfl) us hl
  have D__law_pair := isDef_mk (P := l.prog) (w := w) (base := base) F__law_pair (W.mg_of X G a__law_pair) b__law_pair (ok__law_pair F__law_pair T)
  have F__law_worth := fun_mk (st := s__law_worth) l__law_worth c__law_worth k__law_worth
  have b__law_worth := F__law_worth.binds (ps := ["_law_case_here", "_law_way"]) fun _ _ _ _ _ _ us hl => on2 (P := fun us => bindArgs _ ⟨us, []⟩ = pure (List.zip _ us)) (fun _ _ => rfl) us hl
  have D__law_worth := isDef_mk (P := l.prog) (w := w) (base := base) F__law_worth (W.mg_of X G a__law_worth) b__law_worth (ok__law_worth F__law_worth T D__law_pair)
  have F__law_drawn := fun_mk (st := s__law_drawn) l__law_drawn c__law_drawn k__law_drawn
  have b__law_drawn := F__law_drawn.binds (ps := ["_law_case_here", "_law_cell"]) fun _ _ _ _ _ _ us hl => on2 (P := fun us => bindArgs _ ⟨us, []⟩ = pure (List.zip _ us)) (fun _ _ => rfl) us hl
  have D__law_drawn := isDef_mk (P := l.prog) (w := w) (base := base) F__law_drawn (W.mg_of X G a__law_drawn) b__law_drawn (ok__law_drawn F__law_drawn T D__law_pair)
  have F__law_row := fun_mk (st := s__law_row) l__law_row c__law_row k__law_row
  have b__law_row := F__law_row.binds (ps := ["_law_found", "_law_due"]) fun _ _ _ _ _ _ us hl => on2 (P := fun us => bindArgs _ ⟨us, []⟩ = pure (List.zip _ us)) (fun _ _ => rfl) us hl
  have D__law_row := isDef_mk (P := l.prog) (w := w) (base := base) F__law_row (W.mg_of X G a__law_row) b__law_row (ok__law_row F__law_row T D__law_whole)
  have F__law_kind := fun_mk (st := s__law_kind) l__law_kind c__law_kind k__law_kind
  have b__law_kind := F__law_kind.binds (ps := ["_law_e"]) fun _ _ _ _ _ _ us hl => on1 (P := fun us => bindArgs _ ⟨us, []⟩ = pure (List.zip _ us)) (fun _ => rfl) us hl
  have D__law_kind := isDef_mk (P := l.prog) (w := w) (base := base) F__law_kind (W.mg_of X G a__law_kind) b__law_kind (ok__law_kind F__law_kind T e_BadWord e_BadBook e_BadTerms e_BadNear e_BadWay e_BadName e_BadYear e_NameTaken e_Full e_TooMany e_NoBook e_NoFinding e_HasLeft e_BadSearch)
  have F__law_terms := fun_mk (st := s__law_terms) l__law_terms c__law_terms k__law_terms
  have b__law_terms := F__law_terms.binds (ps := ["_law_case_here"]) fun _ _ _ _ _ _ us hl => on1 (P := fun us => bindArgs _ ⟨us, []⟩ = pure (List.zip _ us)) (fun _ => rfl) us hl
  have D__law_terms := isDef_mk (P := l.prog) (w := w) (base := base) F__law_terms (W.mg_of X G a__law_terms) b__law_terms (ok__law_terms F__law_terms T N6_Terms)
  have F__law_is_way := fun_mk (st := s__law_is_way) l__law_is_way c__law_is_way k__law_is_way
  have b__law_is_way := F__law_is_way.binds (ps := ["_law_case_here", "_law_way"]) fun _ _ _ _ _ _ us hl => on2 (P := fun us => bindArgs _ ⟨us, []⟩ = pure (List.zip _ us)) (fun _ _ => rfl) us hl
  have D__law_is_way := isDef_mk (P := l.prog) (w := w) (base := base) F__law_is_way (W.mg_of X G a__law_is_way) b__law_is_way (ok__law_is_way F__law_is_way T D__law_pair)
  have F__law_spoiled := fun_mk (st := s__law_spoiled) l__law_spoiled c__law_spoiled k__law_spoiled
  have b__law_spoiled := F__law_spoiled.binds (ps := ["_law_case_here", "_law_way", "_law_pick", "_law_cell"]) fun _ _ _ _ _ _ us hl => on4 (P := fun us => bindArgs _ ⟨us, []⟩ = pure (List.zip _ us)) (fun _ _ _ _ => rfl) us hl
  have D__law_spoiled := isDef_mk (P := l.prog) (w := w) (base := base) F__law_spoiled (W.mg_of X G a__law_spoiled) b__law_spoiled (ok__law_spoiled F__law_spoiled T)
  have F_law := fun_mk (st := s_law) l_law c_law k_law
  exact ok_law F_law T D__law_at D__law_case D__law_drawn D__law_spoiled D__law_terms D__law_is_way D__law_kind D__law_worth D__law_row D__law_whole D_way_row D_way_worth e_QuoteError e_BadWay fit_BadWay mq_BadWay
theorem walk {l : W.OpenLaw} {q : Program} {loose : List Str} {XP : (Str → Option Value) → Heap → Prop} {YP : World → Heap → Prop} {d : DefRec} {K : Params → W.Frag} (hn : l.most = some 63) (hdf : d.params.defaults = [])
    (hY : ∀ (w : World) (h : Heap), YP w h → (K w.params).In h)
    (F : ∀ (w : World) (mg : Str → Option Value) (fa : Addr) (h : Heap), (K w.params).In h → h.Ns mainGlobals mg → mg d.name = some (.ref fa) →
      ∃ fd : FuncData, (∀ (s : Shared) (u : Value), BindsTo s fd ⟨[u], []⟩ [("_law_script", u)]) ∧ ∀ base : Heap, (K w.params).In base → base.Ns mainGlobals mg → FnOk l.prog w (K w.params) mg base (CXF l.prog w) true 8 fa fd ["_law_script"] (spLaw (K w.params))) :
    W.WalkO q loose XP YP l.row.toRowW d [] (fun f vs => PySem.call f vs) :=
  L2.walk_of (n := 63) (k := 8) (x := "_law_script") (CX := fun w => CXF l.prog w) (sp := fun w => spLaw (K w.params)) hn (by decide) hdf ⟨(fun _ => rfl), by decide, by decide⟩ hY F (fun _ _ a ns hl _ hS => ⟨a, ns, rfl, hS, hl, fun _ => rfl⟩) fun _ _ _ _ _ ⟨_, _, _, _, _, _, _, _, _, _, _, _, _, z⟩ => z
end K09
namespace HD
open PySem PySem.W PyProof.Rows L2
noncomputable section
noncomputable abbrev pw : Program := PySem.Challenge.pw_quotefind_k09_no_ways
theorem prime : (pw.main.body.length == 54) = true := by k_qdec
noncomputable abbrev pq : Program := PySem.W.Fast.tw15243795718579536074
theorem pwq : pw = pq := PySem.W.Fast.te15243795718579536074
noncomputable def z0 : Str := ⟨⟨[60,109,111,100,117,108,101,62]⟩⟩
noncomputable def z1 : Str := ⟨⟨[95,95,109,97,105,110,95,95]⟩⟩
noncomputable def z2 : Str := ⟨⟨[95,95,110,97,109,101,95,95]⟩⟩
noncomputable def z3 : Str := ⟨⟨[108,97,119,95,113,117,111,116,101,102,105,110,100,95,107,48,57,95,110,111,95,119,97,121,115]⟩⟩
noncomputable def z4 : Str := ⟨⟨[95,95,100,111,99,95,95]⟩⟩
noncomputable def z5 : Str := ⟨⟨[95,95,112,97,99,107,97,103,101,95,95]⟩⟩
noncomputable def z6 : Str := ⟨⟨[95,95,108,111,97,100,101,114,95,95]⟩⟩
noncomputable def z7 : Str := ⟨⟨[95,95,115,112,101,99,95,95]⟩⟩
noncomputable def z8 : Str := ⟨⟨[95,95,97,110,110,111,116,97,116,105,111,110,115,95,95]⟩⟩
noncomputable def z9 : Str := ⟨⟨[95,95,98,117,105,108,116,105,110,115,95,95]⟩⟩
noncomputable def z10 : Str := ⟨⟨[95,95,102,105,108,101,95,95]⟩⟩
noncomputable def z11 : Str := ⟨⟨[47,99,108,97,105,109,47,99,117,116,46,112,121]⟩⟩
noncomputable def z12 : Str := ⟨⟨[95,95,99,97,99,104,101,100,95,95]⟩⟩
noncomputable def z13 : Str := ⟨⟨[95,119,97,108,108]⟩⟩
noncomputable def z14 : Str := ⟨⟨[81,117,111,116,101,69,114,114,111,114]⟩⟩
noncomputable def z15 : Str := ⟨⟨[66,97,100,87,111,114,100]⟩⟩
noncomputable def z16 : Str := ⟨⟨[66,97,100,66,111,111,107]⟩⟩
noncomputable def z17 : Str := ⟨⟨[66,97,100,84,101,114,109,115]⟩⟩
noncomputable def z18 : Str := ⟨⟨[66,97,100,78,101,97,114]⟩⟩
noncomputable def z19 : Str := ⟨⟨[66,97,100,87,97,121]⟩⟩
noncomputable def z20 : Str := ⟨⟨[66,97,100,78,97,109,101]⟩⟩
noncomputable def z21 : Str := ⟨⟨[66,97,100,89,101,97,114]⟩⟩
noncomputable def z22 : Str := ⟨⟨[78,97,109,101,84,97,107,101,110]⟩⟩
noncomputable def z23 : Str := ⟨⟨[70,117,108,108]⟩⟩
noncomputable def z24 : Str := ⟨⟨[84,111,111,77,97,110,121]⟩⟩
noncomputable def z25 : Str := ⟨⟨[78,111,66,111,111,107]⟩⟩
noncomputable def z26 : Str := ⟨⟨[78,111,70,105,110,100,105,110,103]⟩⟩
noncomputable def z27 : Str := ⟨⟨[72,97,115,76,101,102,116]⟩⟩
noncomputable def z28 : Str := ⟨⟨[66,97,100,83,101,97,114,99,104]⟩⟩
noncomputable def z29 : Str := ⟨⟨[105,115,95,112,108,97,99,101]⟩⟩
noncomputable def z30 : Str := ⟨⟨[115,116,97,110,100,105,110,103,95,119,111,114,116,104]⟩⟩
noncomputable def z31 : Str := ⟨⟨[112,114,105,99,101,95,98,101,116,119,101,101,110]⟩⟩
noncomputable def z32 : Str := ⟨⟨[119,97,121,95,114,111,119]⟩⟩
noncomputable def z33 : Str := ⟨⟨[119,97,121,95,119,111,114,116,104]⟩⟩
noncomputable def z34 : Str := ⟨⟨[87,79,82,68,95,77,79,83,84]⟩⟩
noncomputable def z35 : Str := ⟨⟨[105,115,95,115,109,97,108,108,95,108,101,116,116,101,114]⟩⟩
noncomputable def z36 : Str := ⟨⟨[105,115,95,119,111,114,100]⟩⟩
noncomputable def z37 : Str := ⟨⟨[87,79,82,84,72,95,77,79,83,84]⟩⟩
noncomputable def z38 : Str := ⟨⟨[78,69,65,82,95,77,79,83,84]⟩⟩
noncomputable def z39 : Str := ⟨⟨[80,65,82,84,95,77,79,83,84]⟩⟩
noncomputable def z40 : Str := ⟨⟨[105,115,95,98,101,116,119,101,101,110]⟩⟩
noncomputable def z41 : Str := ⟨⟨[99,104,101,99,107,95,110,117,109,98,101,114]⟩⟩
noncomputable def z42 : Str := ⟨⟨[99,104,101,99,107,95,110,101,97,114,95,102,111,114,109]⟩⟩
noncomputable def z43 : Str := ⟨⟨[110,101,97,114,95,112,114,105,99,101,115]⟩⟩
noncomputable def z44 : Str := ⟨⟨[84,101,114,109,115]⟩⟩
noncomputable def z45 : Str := ⟨⟨[95,108,97,119,95,97,116]⟩⟩
noncomputable def z46 : Str := ⟨⟨[95,108,97,119,95,119,104,111,108,101]⟩⟩
noncomputable def z47 : Str := ⟨⟨[95,108,97,119,95,98,97,110,107]⟩⟩
noncomputable def z48 : Str := ⟨⟨[95,108,97,119,95,98,111,111,107]⟩⟩
noncomputable def z49 : Str := ⟨⟨[95,108,97,119,95,113,117,111,116,101]⟩⟩
noncomputable def z50 : Str := ⟨⟨[95,108,97,119,95,110,117,109,98,101,114,115]⟩⟩
noncomputable def z51 : Str := ⟨⟨[95,108,97,119,95,110,101,97,114]⟩⟩
noncomputable def z52 : Str := ⟨⟨[95,108,97,119,95,99,97,115,101]⟩⟩
noncomputable def z53 : Str := ⟨⟨[95,108,97,119,95,112,97,105,114]⟩⟩
noncomputable def z54 : Str := ⟨⟨[95,108,97,119,95,119,111,114,116,104]⟩⟩
noncomputable def z55 : Str := ⟨⟨[95,108,97,119,95,100,114,97,119,110]⟩⟩
noncomputable def z56 : Str := ⟨⟨[95,108,97,119,95,114,111,119]⟩⟩
noncomputable def z57 : Str := ⟨⟨[95,108,97,119,95,107,105,110,100]⟩⟩
noncomputable def z58 : Str := ⟨⟨[95,108,97,119,95,116,101,114,109,115]⟩⟩
noncomputable def z59 : Str := ⟨⟨[95,108,97,119,95,105,115,95,119,97,121]⟩⟩
noncomputable def z60 : Str := ⟨⟨[95,108,97,119,95,115,112,111,105,108,101,100]⟩⟩
noncomputable def z61 : Str := ⟨⟨[108,97,119]⟩⟩
noncomputable def z62 : Str := ⟨⟨[107]⟩⟩
noncomputable def z63 : Str := ⟨⟨[95,95,109,111,100,117,108,101,95,95]⟩⟩
noncomputable def z64 : Str := ⟨⟨[113,117,111,116,101,102,105,110,100,46,101,114,114,111,114,115]⟩⟩
noncomputable def z65 : Str := ⟨⟨[95,95,113,117,97,108,110,97,109,101,95,95]⟩⟩
noncomputable def z66 : Str := ⟨⟨[95,95,102,105,114,115,116,108,105,110,101,110,111,95,95]⟩⟩
noncomputable def z67 : Str := ⟨⟨[95,95,115,116,97,116,105,99,95,97,116,116,114,105,98,117,116,101,115,95,95]⟩⟩
noncomputable def z68 : Str := ⟨⟨[95,95,119,101,97,107,114,101,102,95,95]⟩⟩
noncomputable def z69 : Str := ⟨⟨[112,108,97,99,101]⟩⟩
noncomputable def z70 : Str := ⟨⟨[119,111,114,100,115]⟩⟩
noncomputable def z71 : Str := ⟨⟨[113,117,111,116,101,102,105,110,100,46,119,97,121,115]⟩⟩
noncomputable def z72 : Str := ⟨⟨[102,105,114,115,116]⟩⟩
noncomputable def z73 : Str := ⟨⟨[115,101,99,111,110,100]⟩⟩
noncomputable def z74 : Str := ⟨⟨[116,101,114,109,115]⟩⟩
noncomputable def z75 : Str := ⟨⟨[112,97,105,114]⟩⟩
noncomputable def z76 : Str := ⟨⟨[119,111,114,116,104]⟩⟩
noncomputable def z77 : Str := ⟨⟨[108,97,116,101,114]⟩⟩
noncomputable def z78 : Str := ⟨⟨[108,101,102,116,95,111,117,116]⟩⟩
noncomputable def z79 : Str := ⟨⟨[112,117,116,95,105,110]⟩⟩
noncomputable def z80 : Str := ⟨⟨[119,97,121]⟩⟩
noncomputable def z81 : Str := ⟨⟨[114,111,119]⟩⟩
noncomputable def z82 : Str := ⟨⟨[110,117,109,98,101,114]⟩⟩
noncomputable def z83 : Str := ⟨⟨[115,105,103,110]⟩⟩
noncomputable def z84 : Str := ⟨⟨[113,117,111,116,101,102,105,110,100,46,119,111,114,100,115]⟩⟩
noncomputable def z85 : Str := ⟨⟨[108,111,119]⟩⟩
noncomputable def z86 : Str := ⟨⟨[104,105,103,104]⟩⟩
noncomputable def z87 : Str := ⟨⟨[113,117,111,116,101,102,105,110,100,46,116,101,114,109,115]⟩⟩
noncomputable def z88 : Str := ⟨⟨[110,97,109,101]⟩⟩
noncomputable def z89 : Str := ⟨⟨[120]⟩⟩
noncomputable def z90 : Str := ⟨⟨[121]⟩⟩
noncomputable def z91 : Str := ⟨⟨[112,114,105,99,101]⟩⟩
noncomputable def z92 : Str := ⟨⟨[110,101,97,114]⟩⟩
noncomputable def z93 : Str := ⟨⟨[112,114,105,99,101,115]⟩⟩
noncomputable def z94 : Str := ⟨⟨[95,95,105,110,105,116,95,95]⟩⟩
noncomputable def z95 : Str := ⟨⟨[112,97,105,114,95,119,111,114,116,104]⟩⟩
noncomputable def z96 : Str := ⟨⟨[116,117,114,110,101,100]⟩⟩
noncomputable def z97 : Str := ⟨⟨[115,101,108,102]⟩⟩
noncomputable def z98 : Str := ⟨⟨[115,97,109,101]⟩⟩
noncomputable def z99 : Str := ⟨⟨[111,117,116]⟩⟩
noncomputable def z100 : Str := ⟨⟨[105,110,116,111]⟩⟩
noncomputable def z101 : Str := ⟨⟨[108,101,97,115,116]⟩⟩
noncomputable def z102 : Str := ⟨⟨[112,97,114,116]⟩⟩
noncomputable def z103 : Str := ⟨⟨[84,101,114,109,115,46,95,95,105,110,105,116,95,95]⟩⟩
noncomputable def z104 : Str := ⟨⟨[84,101,114,109,115,46,112,97,105,114,95,119,111,114,116,104]⟩⟩
noncomputable def z105 : Str := ⟨⟨[84,101,114,109,115,46,116,117,114,110,101,100]⟩⟩
noncomputable def z106 : Str := ⟨⟨[95,95,100,105,99,116,95,95]⟩⟩
noncomputable def z107 : Str := ⟨⟨[95,108,97,119,95,115,99,114,105,112,116]⟩⟩
noncomputable def z108 : Str := ⟨⟨[95,108,97,119,95,107]⟩⟩
noncomputable def z109 : Str := ⟨⟨[95,108,97,119,95,102,111,117,110,100]⟩⟩
noncomputable def z110 : Str := ⟨⟨[95,108,97,119,95,99,101,108,108]⟩⟩
noncomputable def z111 : Str := ⟨⟨[95,108,97,119,95,111,116,104,101,114]⟩⟩
noncomputable def z112 : Str := ⟨⟨[95,108,97,119,95,109,97,110,121]⟩⟩
noncomputable def z113 : Str := ⟨⟨[95,108,97,119,95,108,101,116,116,101,114,115]⟩⟩
noncomputable def z114 : Str := ⟨⟨[95,108,97,119,95,115,116,101,109]⟩⟩
noncomputable def z115 : Str := ⟨⟨[95,108,97,119,95,114,101,115,116]⟩⟩
noncomputable def z116 : Str := ⟨⟨[95,108,97,119,95,115,105,122,101]⟩⟩
noncomputable def z117 : Str := ⟨⟨[95,108,97,119,95,115,112,111,116]⟩⟩
noncomputable def z118 : Str := ⟨⟨[95,108,97,119,95,115,105,103,110]⟩⟩
noncomputable def z119 : Str := ⟨⟨[95,108,97,119,95,98,97,110,107,95,104,101,114,101]⟩⟩
noncomputable def z120 : Str := ⟨⟨[95,108,97,119,95,98,111,111,107,95,104,101,114,101]⟩⟩
noncomputable def z121 : Str := ⟨⟨[95,108,97,119,95,102,105,114,115,116]⟩⟩
noncomputable def z122 : Str := ⟨⟨[95,108,97,119,95,112,108,97,99,101]⟩⟩
noncomputable def z123 : Str := ⟨⟨[95,108,97,119,95,112,105,99,107]⟩⟩
noncomputable def z124 : Str := ⟨⟨[95,108,97,119,95,115,97,109,101]⟩⟩
noncomputable def z125 : Str := ⟨⟨[95,108,97,119,95,120]⟩⟩
noncomputable def z126 : Str := ⟨⟨[95,108,97,119,95,121]⟩⟩
noncomputable def z127 : Str := ⟨⟨[95,108,97,119,95,112,114,105,99,101]⟩⟩
noncomputable def z128 : Str := ⟨⟨[95,108,97,119,95,109,111,115,116]⟩⟩
noncomputable def z129 : Str := ⟨⟨[95,108,97,119,95,111,110,101]⟩⟩
noncomputable def z130 : Str := ⟨⟨[95,108,97,119,95,115,101,99,111,110,100]⟩⟩
noncomputable def z131 : Str := ⟨⟨[95,108,97,119,95,110,117,109,98,101,114,115,95,104,101,114,101]⟩⟩
noncomputable def z132 : Str := ⟨⟨[95,108,97,119,95,110,101,97,114,95,104,101,114,101]⟩⟩
noncomputable def z133 : Str := ⟨⟨[95,108,97,119,95,111,108,100]⟩⟩
noncomputable def z134 : Str := ⟨⟨[95,108,97,119,95,110,101,119]⟩⟩
noncomputable def z135 : Str := ⟨⟨[95,108,97,119,95,99,97,115,101,95,104,101,114,101]⟩⟩
noncomputable def z136 : Str := ⟨⟨[95,108,97,119,95,119,97,121]⟩⟩
noncomputable def z137 : Str := ⟨⟨[95,108,97,119,95,116,111,116,97,108]⟩⟩
noncomputable def z138 : Str := ⟨⟨[95,108,97,119,95,105]⟩⟩
noncomputable def z139 : Str := ⟨⟨[95,108,97,119,95,106]⟩⟩
noncomputable def z140 : Str := ⟨⟨[95,108,97,119,95,103,97,105,110]⟩⟩
noncomputable def z141 : Str := ⟨⟨[95,108,97,119,95,102,105,116,115]⟩⟩
noncomputable def z142 : Str := ⟨⟨[95,108,97,119,95,100,117,101]⟩⟩
noncomputable def z143 : Str := ⟨⟨[95,108,97,119,95,101]⟩⟩
noncomputable def z144 : Str := ⟨⟨[95,108,97,119,95,116,111,108,100]⟩⟩
noncomputable def z145 : Str := ⟨⟨[95,108,97,119,95,97,108,111,110,101]⟩⟩
noncomputable def z146 : Str := ⟨⟨[95,108,97,119,95,110]⟩⟩
noncomputable def z147 : Str := ⟨⟨[95,108,97,119,95,112,97,105,114,95,104,101,114,101]⟩⟩
noncomputable def z148 : Str := ⟨⟨[95,108,97,119,95,109,97,100,101]⟩⟩
noncomputable abbrev y0 : String := PySem.W.SL.s658472552662922059x5
noncomputable abbrev y1 : String := PySem.W.SL.s14018661285674007319x4
noncomputable abbrev y2 : String := PySem.W.SL.s7097527257260152453x26
noncomputable abbrev y3 : String := PySem.W.SL.s7174869446012820540x8
noncomputable abbrev y4 : String := PySem.W.SL.s6070975301684473832x10
noncomputable abbrev y5 : String := PySem.W.SL.s11030030927630378310x26
noncomputable abbrev y6 : String := PySem.W.SL.s10062305145149207511x16
noncomputable abbrev y7 : String := PySem.W.SL.s17162191345867700912x4
noncomputable abbrev y8 : String := PySem.W.SL.s5946037652744460706x9
noncomputable abbrev y9 : String := PySem.W.SL.s4278001404047624695x13
noncomputable abbrev y10 : String := PySem.W.SL.s2742458400755230247x6
noncomputable abbrev y11 : String := PySem.W.SL.s4209523147560561109x18
noncomputable abbrev y12 : String := PySem.W.SL.s14755015743595814543x17
noncomputable abbrev y13 : String := PySem.W.SL.s10220274742760427390x26
noncomputable abbrev y14 : String := PySem.W.SL.s4290257624100764138x5
noncomputable abbrev y15 : String := PySem.W.SL.s4860613602091757760x24
noncomputable abbrev y16 : String := PySem.W.SL.s5856160107412720595x4
noncomputable abbrev y17 : String := PySem.W.SL.s11443829558043349243x14
noncomputable abbrev y18 : String := PySem.W.SL.s6511155373996960695x17
noncomputable abbrev y19 : String := PySem.W.SL.s12411053484034534018x21
noncomputable abbrev R (a : Addr) : Value := .ref a
noncomputable abbrev I (i : Int) : Value := .int i 0
noncomputable abbrev N : Value := .none
noncomputable abbrev V0 : Value := .bool false
noncomputable abbrev V1 : Value := .bool true
noncomputable abbrev U (v : Value) : Option Value := some v
noncomputable abbrev B := BT.node
noncomputable abbrev L := BT.nil
noncomputable abbrev E (P : Params) (x : Str) (t : Tok) (v : Value) : DictEntry := ⟨PyData.keyHash P x, .str x t, v⟩
noncomputable abbrev tu (l : List Value) : Obj := ⟨.type "tuple", none, .seq ⟨l⟩ 0, ⟨[]⟩⟩
noncomputable abbrev fi (l : List Value) : Obj := ⟨.none, none, .fields ⟨l⟩, ⟨[]⟩⟩
noncomputable abbrev cd (n : Str) (t : Nat) (l a f : Int) (r8 : Addr) (b : Bool) (r11 : Addr) (v13 v14 v15 : Value) (t3 : Int) (t4 : Nat) : Obj := ⟨.type y16, none, .fields ⟨[.str n t, .str n (t + 1), .str z11 (t + 2), I l, I a, I 0, I 0, I f, R r8, .bool b, I 181, R r11, N, v13, v14, v15, I t3, I l, .str z11 t4]⟩, ⟨[]⟩⟩
noncomputable def tp (p : Program) (i : Nat) : Stmt := p.main.body.getD i (.Pass ⟨0, 0, 0, 0⟩)
noncomputable abbrev F (n q : Str) (s : Stmt) (dV kV doc pm : Value) (an : Option Addr) (c ct : Value) : Data := .func (fnOf n q (defArgs s) (defBody s) (defScope s) dV kV doc pm an c ct)
noncomputable def b0 (_ : Program) (P : Params) : Obj := PySem.W.boot_o_0 P
noncomputable def b1 (_ : Program) (P : Params) : Obj := PySem.W.boot_o_1 P
noncomputable def b2 (_ : Program) (P : Params) : Obj := PySem.W.boot_o_2 P
noncomputable def b3 (_ : Program) (P : Params) : Obj := PySem.W.boot_o_3 P
noncomputable def b4 (_ : Program) (P : Params) : Obj := PySem.W.boot_o_4 P
noncomputable def b5 (_ : Program) (P : Params) : Obj := PySem.W.boot_o_5 P
noncomputable def b6 (_ : Program) (P : Params) : Obj := PySem.W.boot_o_6 P
noncomputable def b7 (_ : Program) (P : Params) : Obj := PySem.W.boot_o_7 P
noncomputable def b8 (_ : Program) (P : Params) : Obj := PySem.W.boot_o_8 P
noncomputable def b9 (_ : Program) (P : Params) : Obj := PySem.W.boot_o_9 P
noncomputable def b10 (_ : Program) (P : Params) : Obj := PySem.W.boot_o_10 P
noncomputable def a11 (p : Program) (P : Params) : Obj := tu []
noncomputable def a12 (p : Program) (P : Params) : Obj := fi []
noncomputable def a13 (p : Program) (P : Params) : Obj := cd z0 182 1 0 0 11 false 12 N N N 185 186
noncomputable def a14 (p : Program) (P : Params) : Obj := ⟨(.type y0),none,.plain,⟨[U (R 13),U (R 3),U (R 3),none,U (.str z1 164),none,U (R 0)]⟩⟩
noncomputable def o3 (p : Program) (P : Params) : Obj := ⟨(.type y1),none,(.dict ⟨[E P z2 165 (.str z3 616),E P z4 166 N,E P z5 167 N,E P z6 168 (.builtin y2),E P z7 169 N,E P z8 170 (R 6),E P z9 171 (R 4),E P z10 173 (.str z11 172),E P z12 174 N,E P z13 193 (R 21),E P z14 213 (R 31),E P z15 229 (R 44),E P z16 245 (R 56),E P z17 261 (R 68),E P z18 277 (R 80),E P z19 293 (R 92),E P z20 309 (R 104),E P z21 325 (R 116),E P z22 341 (R 128),E P z23 357 (R 140),E P z24 373 (R 152),E P z25 389 (R 164),E P z26 405 (R 176),E P z27 421 (R 188),E P z28 437 (R 200),E P z29 447 (R 209),E P z30 458 (R 216),E P z31 469 (R 223),E P z32 483 (R 230),E P z33 493 (R 237),E P z34 497 (.int 12 496),E P z35 504 (R 244),E P z36 510 (R 249),E P z37 514 (.int 999999 513),E P z38 516 (.int 60 515),E P z39 518 (.int 100 517),E P z40 527 (R 256),E P z41 537 (R 263),E P z42 546 (R 270),E P z43 557 (R 277),E P z44 615 (R 309),E P z45 625 (R 320),E P z46 632 (R 327),E P z47 649 (R 334),E P z48 663 (R 341),E P z49 680 (R 348),E P z50 686 (R 353),E P z51 700 (R 360),E P z52 715 (R 367),E P z53 728 (R 374),E P z54 741 (R 381),E P z55 755 (R 388),E P z56 764 (R 395),E P z57 774 (R 402),E P z58 782 (R 409),E P z59 793 (R 416),E P z60 807 (R 423),E P z61 813 (R 428)]⟩ 58),⟨[]⟩⟩
noncomputable def o12 (p : Program) (P : Params) : Obj := fi [(I 1),(I 0),(R 20),(I 5),(I 0),(R 27),(I 7),(I 0),(R 40),(I 9),(I 0),(R 52),(I 11),(I 0),(R 64),(I 13),(I 0),(R 76),(I 15),(I 0),(R 88),(I 17),(I 0),(R 100),(I 19),(I 0),(R 112),(I 21),(I 0),(R 124),(I 23),(I 0),(R 136),(I 25),(I 0),(R 148),(I 27),(I 0),(R 160),(I 29),(I 0),(R 172),(I 31),(I 0),(R 184),(I 33),(I 0),(R 196),(I 36),(I 0),(R 208),(I 38),(I 0),(R 215),(I 45),(I 0),(R 222),(I 51),(I 0),(R 229),(I 61),(I 0),(R 236),(I 65),(I 0),(R 243),(I 67),(I 0),(R 248),(I 75),(I 0),(R 255),(I 77),(I 0),(R 262),(I 80),(I 0),(R 269),(I 87),(I 0),(R 276),(I 97),(I 0),(R 283),(I 124),(I 0),(R 319),(I 128),(I 0),(R 326),(I 130),(I 0),(R 333),(I 147),(I 0),(R 340),(I 154),(I 0),(R 347),(I 168),(I 0),(R 352),(I 176),(I 0),(R 359),(I 190),(I 0),(R 366),(I 199),(I 0),(R 373),(I 206),(I 0),(R 380),(I 218),(I 0),(R 387),(I 230),(I 0),(R 394),(I 237),(I 0),(R 401),(I 246),(I 0),(R 408),(I 249),(I 0),(R 415),(I 259),(I 0),(R 422),(I 282),(I 0),(R 427)]
noncomputable def o15 (p : Program) (P : Params) : Obj := tu []
noncomputable def o16 (p : Program) (P : Params) : Obj := fi []
noncomputable def o17 (p : Program) (P : Params) : Obj := tu [(.str z62 190)]
noncomputable def o18 (p : Program) (P : Params) : Obj := tu []
noncomputable def o19 (p : Program) (P : Params) : Obj := ⟨N,none,(.func ⟨z13,z13,defArgs (tp p 0),.stmts (defBody (tp p 0)),defScope (tp p 0),0,[],N,N,N,N,none,N,N,0⟩),⟨[]⟩⟩
noncomputable def o20 (p : Program) (P : Params) : Obj := cd z13 187 1 1 3 15 true 16 (R 17) (R 18) (R 19) 191 192
noncomputable def o21 (p : Program) (P : Params) : Obj := ⟨(.type y3),none,(F z13 z13 (tp p 0) N N N (.str z1 164) none (R 20) N),⟨[]⟩⟩
noncomputable def o22 (p : Program) (P : Params) : Obj := tu [(.type y4)]
noncomputable def o23 (p : Program) (P : Params) : Obj := ⟨(.type y5),none,(.fields ⟨[(.builtin y6),(.type y7)]⟩),⟨[]⟩⟩
noncomputable def o24 (p : Program) (P : Params) : Obj := ⟨(.type y1),none,(.dict ⟨[E P z63 203 (.str z64 194),E P z65 205 (.str z14 204),E P z66 207 (.int 5 206),E P z67 208 (R 29)]⟩ 4),⟨[]⟩⟩
noncomputable def o25 (p : Program) (P : Params) : Obj := tu []
noncomputable def o26 (p : Program) (P : Params) : Obj := fi []
noncomputable def o27 (p : Program) (P : Params) : Obj := cd z14 198 5 0 0 25 false 26 N N N 201 202
noncomputable def o28 (p : Program) (P : Params) : Obj := ⟨(.type y0),none,.plain,⟨[U (R 27),U (R 3),U (R 24),none,U (.str z64 194),none,U (R 0)]⟩⟩
noncomputable def o29 (p : Program) (P : Params) : Obj := tu []
noncomputable def o30 (p : Program) (P : Params) : Obj := ⟨(.type y1),none,(.dict ⟨[E P z63 203 (.str z64 194),E P z66 207 (.int 5 206),E P z67 208 (R 29),E P z68 210 (R 32),E P z4 211 N]⟩ 3),⟨[]⟩⟩
noncomputable def o31 (p : Program) (P : Params) : Obj := ⟨(.type y7),none,(.cls ⟨z14,[(.type y4)],[(R 31),(.type y4),(.type y8),(.type y9),(.type y10)],30,z14,true,[],[(R 44),(R 56),(R 68),(R 80),(R 92),(R 104),(R 116),(R 128),(R 140),(R 152),(R 164),(R 176),(R 188),(R 200)],false,none,false⟩),⟨[U (R 22),none,U (.str z14 196),U (.str z14 204),U (.builtin y11),U V1]⟩⟩
noncomputable def o32 (p : Program) (P : Params) : Obj := ⟨(.type y12),none,(.fields ⟨[(.str z68 209),(R 31),(.builtin y13),N]⟩),⟨[]⟩⟩
noncomputable def o33 (p : Program) (P : Params) : Obj := ⟨(.type y14),none,(.fields ⟨[(R 31),(R 31),(R 31)]⟩),⟨[]⟩⟩
noncomputable def o34 (p : Program) (P : Params) : Obj := ⟨(.type y5),none,(.fields ⟨[(.builtin y15),(R 31)]⟩),⟨[]⟩⟩
noncomputable def o35 (p : Program) (P : Params) : Obj := tu [(R 31)]
noncomputable def o36 (p : Program) (P : Params) : Obj := ⟨(.type y5),none,(.fields ⟨[(.builtin y6),(.type y7)]⟩),⟨[]⟩⟩
noncomputable def o37 (p : Program) (P : Params) : Obj := ⟨(.type y1),none,(.dict ⟨[E P z63 221 (.str z64 194),E P z65 223 (.str z15 222),E P z66 225 (.int 7 224),E P z67 226 (R 42)]⟩ 4),⟨[]⟩⟩
noncomputable def o38 (p : Program) (P : Params) : Obj := tu []
noncomputable def o39 (p : Program) (P : Params) : Obj := fi []
noncomputable def o40 (p : Program) (P : Params) : Obj := cd z15 216 7 0 0 38 false 39 N N N 219 220
noncomputable def o41 (p : Program) (P : Params) : Obj := ⟨(.type y0),none,.plain,⟨[U (R 40),U (R 3),U (R 37),none,U (.str z64 194),none,U (R 0)]⟩⟩
noncomputable def o42 (p : Program) (P : Params) : Obj := tu []
noncomputable def o43 (p : Program) (P : Params) : Obj := ⟨(.type y1),none,(.dict ⟨[E P z63 221 (.str z64 194),E P z66 225 (.int 7 224),E P z67 226 (R 42),E P z4 227 N]⟩ 2),⟨[]⟩⟩
noncomputable def o44 (p : Program) (P : Params) : Obj := ⟨(.type y7),none,(.cls ⟨z15,[(R 31)],[(R 44),(R 31),(.type y4),(.type y8),(.type y9),(.type y10)],43,z15,true,[],[],false,none,false⟩),⟨[U (R 35),none,U (.str z15 214),U (.str z15 222),U (.builtin y11),U V1]⟩⟩
noncomputable def o45 (p : Program) (P : Params) : Obj := ⟨(.type y14),none,(.fields ⟨[(R 44),(R 44),(R 44)]⟩),⟨[]⟩⟩
noncomputable def o46 (p : Program) (P : Params) : Obj := ⟨(.type y5),none,(.fields ⟨[(.builtin y15),(R 44)]⟩),⟨[]⟩⟩
noncomputable def o47 (p : Program) (P : Params) : Obj := tu [(R 31)]
noncomputable def o48 (p : Program) (P : Params) : Obj := ⟨(.type y5),none,(.fields ⟨[(.builtin y6),(.type y7)]⟩),⟨[]⟩⟩
noncomputable def o49 (p : Program) (P : Params) : Obj := ⟨(.type y1),none,(.dict ⟨[E P z63 237 (.str z64 194),E P z65 239 (.str z16 238),E P z66 241 (.int 9 240),E P z67 242 (R 54)]⟩ 4),⟨[]⟩⟩
noncomputable def o50 (p : Program) (P : Params) : Obj := tu []
noncomputable def o51 (p : Program) (P : Params) : Obj := fi []
noncomputable def o52 (p : Program) (P : Params) : Obj := cd z16 232 9 0 0 50 false 51 N N N 235 236
noncomputable def o53 (p : Program) (P : Params) : Obj := ⟨(.type y0),none,.plain,⟨[U (R 52),U (R 3),U (R 49),none,U (.str z64 194),none,U (R 0)]⟩⟩
noncomputable def o54 (p : Program) (P : Params) : Obj := tu []
noncomputable def o55 (p : Program) (P : Params) : Obj := ⟨(.type y1),none,(.dict ⟨[E P z63 237 (.str z64 194),E P z66 241 (.int 9 240),E P z67 242 (R 54),E P z4 243 N]⟩ 2),⟨[]⟩⟩
noncomputable def o56 (p : Program) (P : Params) : Obj := ⟨(.type y7),none,(.cls ⟨z16,[(R 31)],[(R 56),(R 31),(.type y4),(.type y8),(.type y9),(.type y10)],55,z16,true,[],[],false,none,false⟩),⟨[U (R 47),none,U (.str z16 230),U (.str z16 238),U (.builtin y11),U V1]⟩⟩
noncomputable def o57 (p : Program) (P : Params) : Obj := ⟨(.type y14),none,(.fields ⟨[(R 56),(R 56),(R 56)]⟩),⟨[]⟩⟩
noncomputable def o58 (p : Program) (P : Params) : Obj := ⟨(.type y5),none,(.fields ⟨[(.builtin y15),(R 56)]⟩),⟨[]⟩⟩
noncomputable def o59 (p : Program) (P : Params) : Obj := tu [(R 31)]
noncomputable def o60 (p : Program) (P : Params) : Obj := ⟨(.type y5),none,(.fields ⟨[(.builtin y6),(.type y7)]⟩),⟨[]⟩⟩
noncomputable def o61 (p : Program) (P : Params) : Obj := ⟨(.type y1),none,(.dict ⟨[E P z63 253 (.str z64 194),E P z65 255 (.str z17 254),E P z66 257 (.int 11 256),E P z67 258 (R 66)]⟩ 4),⟨[]⟩⟩
noncomputable def o62 (p : Program) (P : Params) : Obj := tu []
noncomputable def o63 (p : Program) (P : Params) : Obj := fi []
noncomputable def o64 (p : Program) (P : Params) : Obj := cd z17 248 11 0 0 62 false 63 N N N 251 252
noncomputable def o65 (p : Program) (P : Params) : Obj := ⟨(.type y0),none,.plain,⟨[U (R 64),U (R 3),U (R 61),none,U (.str z64 194),none,U (R 0)]⟩⟩
noncomputable def o66 (p : Program) (P : Params) : Obj := tu []
noncomputable def o67 (p : Program) (P : Params) : Obj := ⟨(.type y1),none,(.dict ⟨[E P z63 253 (.str z64 194),E P z66 257 (.int 11 256),E P z67 258 (R 66),E P z4 259 N]⟩ 2),⟨[]⟩⟩
noncomputable def o68 (p : Program) (P : Params) : Obj := ⟨(.type y7),none,(.cls ⟨z17,[(R 31)],[(R 68),(R 31),(.type y4),(.type y8),(.type y9),(.type y10)],67,z17,true,[],[],false,none,false⟩),⟨[U (R 59),none,U (.str z17 246),U (.str z17 254),U (.builtin y11),U V1]⟩⟩
noncomputable def o69 (p : Program) (P : Params) : Obj := ⟨(.type y14),none,(.fields ⟨[(R 68),(R 68),(R 68)]⟩),⟨[]⟩⟩
noncomputable def o70 (p : Program) (P : Params) : Obj := ⟨(.type y5),none,(.fields ⟨[(.builtin y15),(R 68)]⟩),⟨[]⟩⟩
noncomputable def o71 (p : Program) (P : Params) : Obj := tu [(R 31)]
noncomputable def o72 (p : Program) (P : Params) : Obj := ⟨(.type y5),none,(.fields ⟨[(.builtin y6),(.type y7)]⟩),⟨[]⟩⟩
noncomputable def o73 (p : Program) (P : Params) : Obj := ⟨(.type y1),none,(.dict ⟨[E P z63 269 (.str z64 194),E P z65 271 (.str z18 270),E P z66 273 (.int 13 272),E P z67 274 (R 78)]⟩ 4),⟨[]⟩⟩
noncomputable def o74 (p : Program) (P : Params) : Obj := tu []
noncomputable def o75 (p : Program) (P : Params) : Obj := fi []
noncomputable def o76 (p : Program) (P : Params) : Obj := cd z18 264 13 0 0 74 false 75 N N N 267 268
noncomputable def o77 (p : Program) (P : Params) : Obj := ⟨(.type y0),none,.plain,⟨[U (R 76),U (R 3),U (R 73),none,U (.str z64 194),none,U (R 0)]⟩⟩
noncomputable def o78 (p : Program) (P : Params) : Obj := tu []
noncomputable def o79 (p : Program) (P : Params) : Obj := ⟨(.type y1),none,(.dict ⟨[E P z63 269 (.str z64 194),E P z66 273 (.int 13 272),E P z67 274 (R 78),E P z4 275 N]⟩ 2),⟨[]⟩⟩
noncomputable def o80 (p : Program) (P : Params) : Obj := ⟨(.type y7),none,(.cls ⟨z18,[(R 31)],[(R 80),(R 31),(.type y4),(.type y8),(.type y9),(.type y10)],79,z18,true,[],[],false,none,false⟩),⟨[U (R 71),none,U (.str z18 262),U (.str z18 270),U (.builtin y11),U V1]⟩⟩
noncomputable def o81 (p : Program) (P : Params) : Obj := ⟨(.type y14),none,(.fields ⟨[(R 80),(R 80),(R 80)]⟩),⟨[]⟩⟩
noncomputable def o82 (p : Program) (P : Params) : Obj := ⟨(.type y5),none,(.fields ⟨[(.builtin y15),(R 80)]⟩),⟨[]⟩⟩
noncomputable def o83 (p : Program) (P : Params) : Obj := tu [(R 31)]
noncomputable def o84 (p : Program) (P : Params) : Obj := ⟨(.type y5),none,(.fields ⟨[(.builtin y6),(.type y7)]⟩),⟨[]⟩⟩
noncomputable def o85 (p : Program) (P : Params) : Obj := ⟨(.type y1),none,(.dict ⟨[E P z63 285 (.str z64 194),E P z65 287 (.str z19 286),E P z66 289 (.int 15 288),E P z67 290 (R 90)]⟩ 4),⟨[]⟩⟩
noncomputable def o86 (p : Program) (P : Params) : Obj := tu []
noncomputable def o87 (p : Program) (P : Params) : Obj := fi []
noncomputable def o88 (p : Program) (P : Params) : Obj := cd z19 280 15 0 0 86 false 87 N N N 283 284
noncomputable def o89 (p : Program) (P : Params) : Obj := ⟨(.type y0),none,.plain,⟨[U (R 88),U (R 3),U (R 85),none,U (.str z64 194),none,U (R 0)]⟩⟩
noncomputable def o90 (p : Program) (P : Params) : Obj := tu []
noncomputable def o91 (p : Program) (P : Params) : Obj := ⟨(.type y1),none,(.dict ⟨[E P z63 285 (.str z64 194),E P z66 289 (.int 15 288),E P z67 290 (R 90),E P z4 291 N]⟩ 2),⟨[]⟩⟩
noncomputable def o92 (p : Program) (P : Params) : Obj := ⟨(.type y7),none,(.cls ⟨z19,[(R 31)],[(R 92),(R 31),(.type y4),(.type y8),(.type y9),(.type y10)],91,z19,true,[],[],false,none,false⟩),⟨[U (R 83),none,U (.str z19 278),U (.str z19 286),U (.builtin y11),U V1]⟩⟩
noncomputable def o93 (p : Program) (P : Params) : Obj := ⟨(.type y14),none,(.fields ⟨[(R 92),(R 92),(R 92)]⟩),⟨[]⟩⟩
noncomputable def o94 (p : Program) (P : Params) : Obj := ⟨(.type y5),none,(.fields ⟨[(.builtin y15),(R 92)]⟩),⟨[]⟩⟩
noncomputable def o95 (p : Program) (P : Params) : Obj := tu [(R 31)]
noncomputable def o96 (p : Program) (P : Params) : Obj := ⟨(.type y5),none,(.fields ⟨[(.builtin y6),(.type y7)]⟩),⟨[]⟩⟩
noncomputable def o97 (p : Program) (P : Params) : Obj := ⟨(.type y1),none,(.dict ⟨[E P z63 301 (.str z64 194),E P z65 303 (.str z20 302),E P z66 305 (.int 17 304),E P z67 306 (R 102)]⟩ 4),⟨[]⟩⟩
noncomputable def o98 (p : Program) (P : Params) : Obj := tu []
noncomputable def o99 (p : Program) (P : Params) : Obj := fi []
noncomputable def o100 (p : Program) (P : Params) : Obj := cd z20 296 17 0 0 98 false 99 N N N 299 300
noncomputable def o101 (p : Program) (P : Params) : Obj := ⟨(.type y0),none,.plain,⟨[U (R 100),U (R 3),U (R 97),none,U (.str z64 194),none,U (R 0)]⟩⟩
noncomputable def o102 (p : Program) (P : Params) : Obj := tu []
noncomputable def o103 (p : Program) (P : Params) : Obj := ⟨(.type y1),none,(.dict ⟨[E P z63 301 (.str z64 194),E P z66 305 (.int 17 304),E P z67 306 (R 102),E P z4 307 N]⟩ 2),⟨[]⟩⟩
noncomputable def o104 (p : Program) (P : Params) : Obj := ⟨(.type y7),none,(.cls ⟨z20,[(R 31)],[(R 104),(R 31),(.type y4),(.type y8),(.type y9),(.type y10)],103,z20,true,[],[],false,none,false⟩),⟨[U (R 95),none,U (.str z20 294),U (.str z20 302),U (.builtin y11),U V1]⟩⟩
noncomputable def o105 (p : Program) (P : Params) : Obj := ⟨(.type y14),none,(.fields ⟨[(R 104),(R 104),(R 104)]⟩),⟨[]⟩⟩
noncomputable def o106 (p : Program) (P : Params) : Obj := ⟨(.type y5),none,(.fields ⟨[(.builtin y15),(R 104)]⟩),⟨[]⟩⟩
noncomputable def o107 (p : Program) (P : Params) : Obj := tu [(R 31)]
noncomputable def o108 (p : Program) (P : Params) : Obj := ⟨(.type y5),none,(.fields ⟨[(.builtin y6),(.type y7)]⟩),⟨[]⟩⟩
noncomputable def o109 (p : Program) (P : Params) : Obj := ⟨(.type y1),none,(.dict ⟨[E P z63 317 (.str z64 194),E P z65 319 (.str z21 318),E P z66 321 (.int 19 320),E P z67 322 (R 114)]⟩ 4),⟨[]⟩⟩
noncomputable def o110 (p : Program) (P : Params) : Obj := tu []
noncomputable def o111 (p : Program) (P : Params) : Obj := fi []
noncomputable def o112 (p : Program) (P : Params) : Obj := cd z21 312 19 0 0 110 false 111 N N N 315 316
noncomputable def o113 (p : Program) (P : Params) : Obj := ⟨(.type y0),none,.plain,⟨[U (R 112),U (R 3),U (R 109),none,U (.str z64 194),none,U (R 0)]⟩⟩
noncomputable def o114 (p : Program) (P : Params) : Obj := tu []
noncomputable def o115 (p : Program) (P : Params) : Obj := ⟨(.type y1),none,(.dict ⟨[E P z63 317 (.str z64 194),E P z66 321 (.int 19 320),E P z67 322 (R 114),E P z4 323 N]⟩ 2),⟨[]⟩⟩
noncomputable def o116 (p : Program) (P : Params) : Obj := ⟨(.type y7),none,(.cls ⟨z21,[(R 31)],[(R 116),(R 31),(.type y4),(.type y8),(.type y9),(.type y10)],115,z21,true,[],[],false,none,false⟩),⟨[U (R 107),none,U (.str z21 310),U (.str z21 318),U (.builtin y11),U V1]⟩⟩
noncomputable def o117 (p : Program) (P : Params) : Obj := ⟨(.type y14),none,(.fields ⟨[(R 116),(R 116),(R 116)]⟩),⟨[]⟩⟩
noncomputable def o118 (p : Program) (P : Params) : Obj := ⟨(.type y5),none,(.fields ⟨[(.builtin y15),(R 116)]⟩),⟨[]⟩⟩
noncomputable def o119 (p : Program) (P : Params) : Obj := tu [(R 31)]
noncomputable def o120 (p : Program) (P : Params) : Obj := ⟨(.type y5),none,(.fields ⟨[(.builtin y6),(.type y7)]⟩),⟨[]⟩⟩
noncomputable def o121 (p : Program) (P : Params) : Obj := ⟨(.type y1),none,(.dict ⟨[E P z63 333 (.str z64 194),E P z65 335 (.str z22 334),E P z66 337 (.int 21 336),E P z67 338 (R 126)]⟩ 4),⟨[]⟩⟩
noncomputable def o122 (p : Program) (P : Params) : Obj := tu []
noncomputable def o123 (p : Program) (P : Params) : Obj := fi []
noncomputable def o124 (p : Program) (P : Params) : Obj := cd z22 328 21 0 0 122 false 123 N N N 331 332
noncomputable def o125 (p : Program) (P : Params) : Obj := ⟨(.type y0),none,.plain,⟨[U (R 124),U (R 3),U (R 121),none,U (.str z64 194),none,U (R 0)]⟩⟩
noncomputable def o126 (p : Program) (P : Params) : Obj := tu []
noncomputable def o127 (p : Program) (P : Params) : Obj := ⟨(.type y1),none,(.dict ⟨[E P z63 333 (.str z64 194),E P z66 337 (.int 21 336),E P z67 338 (R 126),E P z4 339 N]⟩ 2),⟨[]⟩⟩
noncomputable def o128 (p : Program) (P : Params) : Obj := ⟨(.type y7),none,(.cls ⟨z22,[(R 31)],[(R 128),(R 31),(.type y4),(.type y8),(.type y9),(.type y10)],127,z22,true,[],[],false,none,false⟩),⟨[U (R 119),none,U (.str z22 326),U (.str z22 334),U (.builtin y11),U V1]⟩⟩
noncomputable def o129 (p : Program) (P : Params) : Obj := ⟨(.type y14),none,(.fields ⟨[(R 128),(R 128),(R 128)]⟩),⟨[]⟩⟩
noncomputable def o130 (p : Program) (P : Params) : Obj := ⟨(.type y5),none,(.fields ⟨[(.builtin y15),(R 128)]⟩),⟨[]⟩⟩
noncomputable def o131 (p : Program) (P : Params) : Obj := tu [(R 31)]
noncomputable def o132 (p : Program) (P : Params) : Obj := ⟨(.type y5),none,(.fields ⟨[(.builtin y6),(.type y7)]⟩),⟨[]⟩⟩
noncomputable def o133 (p : Program) (P : Params) : Obj := ⟨(.type y1),none,(.dict ⟨[E P z63 349 (.str z64 194),E P z65 351 (.str z23 350),E P z66 353 (.int 23 352),E P z67 354 (R 138)]⟩ 4),⟨[]⟩⟩
noncomputable def o134 (p : Program) (P : Params) : Obj := tu []
noncomputable def o135 (p : Program) (P : Params) : Obj := fi []
noncomputable def o136 (p : Program) (P : Params) : Obj := cd z23 344 23 0 0 134 false 135 N N N 347 348
noncomputable def o137 (p : Program) (P : Params) : Obj := ⟨(.type y0),none,.plain,⟨[U (R 136),U (R 3),U (R 133),none,U (.str z64 194),none,U (R 0)]⟩⟩
noncomputable def o138 (p : Program) (P : Params) : Obj := tu []
noncomputable def o139 (p : Program) (P : Params) : Obj := ⟨(.type y1),none,(.dict ⟨[E P z63 349 (.str z64 194),E P z66 353 (.int 23 352),E P z67 354 (R 138),E P z4 355 N]⟩ 2),⟨[]⟩⟩
noncomputable def o140 (p : Program) (P : Params) : Obj := ⟨(.type y7),none,(.cls ⟨z23,[(R 31)],[(R 140),(R 31),(.type y4),(.type y8),(.type y9),(.type y10)],139,z23,true,[],[],false,none,false⟩),⟨[U (R 131),none,U (.str z23 342),U (.str z23 350),U (.builtin y11),U V1]⟩⟩
noncomputable def o141 (p : Program) (P : Params) : Obj := ⟨(.type y14),none,(.fields ⟨[(R 140),(R 140),(R 140)]⟩),⟨[]⟩⟩
noncomputable def o142 (p : Program) (P : Params) : Obj := ⟨(.type y5),none,(.fields ⟨[(.builtin y15),(R 140)]⟩),⟨[]⟩⟩
noncomputable def o143 (p : Program) (P : Params) : Obj := tu [(R 31)]
noncomputable def o144 (p : Program) (P : Params) : Obj := ⟨(.type y5),none,(.fields ⟨[(.builtin y6),(.type y7)]⟩),⟨[]⟩⟩
noncomputable def o145 (p : Program) (P : Params) : Obj := ⟨(.type y1),none,(.dict ⟨[E P z63 365 (.str z64 194),E P z65 367 (.str z24 366),E P z66 369 (.int 25 368),E P z67 370 (R 150)]⟩ 4),⟨[]⟩⟩
noncomputable def o146 (p : Program) (P : Params) : Obj := tu []
noncomputable def o147 (p : Program) (P : Params) : Obj := fi []
noncomputable def o148 (p : Program) (P : Params) : Obj := cd z24 360 25 0 0 146 false 147 N N N 363 364
noncomputable def o149 (p : Program) (P : Params) : Obj := ⟨(.type y0),none,.plain,⟨[U (R 148),U (R 3),U (R 145),none,U (.str z64 194),none,U (R 0)]⟩⟩
noncomputable def o150 (p : Program) (P : Params) : Obj := tu []
noncomputable def o151 (p : Program) (P : Params) : Obj := ⟨(.type y1),none,(.dict ⟨[E P z63 365 (.str z64 194),E P z66 369 (.int 25 368),E P z67 370 (R 150),E P z4 371 N]⟩ 2),⟨[]⟩⟩
noncomputable def o152 (p : Program) (P : Params) : Obj := ⟨(.type y7),none,(.cls ⟨z24,[(R 31)],[(R 152),(R 31),(.type y4),(.type y8),(.type y9),(.type y10)],151,z24,true,[],[],false,none,false⟩),⟨[U (R 143),none,U (.str z24 358),U (.str z24 366),U (.builtin y11),U V1]⟩⟩
noncomputable def o153 (p : Program) (P : Params) : Obj := ⟨(.type y14),none,(.fields ⟨[(R 152),(R 152),(R 152)]⟩),⟨[]⟩⟩
noncomputable def o154 (p : Program) (P : Params) : Obj := ⟨(.type y5),none,(.fields ⟨[(.builtin y15),(R 152)]⟩),⟨[]⟩⟩
noncomputable def o155 (p : Program) (P : Params) : Obj := tu [(R 31)]
noncomputable def o156 (p : Program) (P : Params) : Obj := ⟨(.type y5),none,(.fields ⟨[(.builtin y6),(.type y7)]⟩),⟨[]⟩⟩
noncomputable def o157 (p : Program) (P : Params) : Obj := ⟨(.type y1),none,(.dict ⟨[E P z63 381 (.str z64 194),E P z65 383 (.str z25 382),E P z66 385 (.int 27 384),E P z67 386 (R 162)]⟩ 4),⟨[]⟩⟩
noncomputable def o158 (p : Program) (P : Params) : Obj := tu []
noncomputable def o159 (p : Program) (P : Params) : Obj := fi []
noncomputable def o160 (p : Program) (P : Params) : Obj := cd z25 376 27 0 0 158 false 159 N N N 379 380
noncomputable def o161 (p : Program) (P : Params) : Obj := ⟨(.type y0),none,.plain,⟨[U (R 160),U (R 3),U (R 157),none,U (.str z64 194),none,U (R 0)]⟩⟩
noncomputable def o162 (p : Program) (P : Params) : Obj := tu []
noncomputable def o163 (p : Program) (P : Params) : Obj := ⟨(.type y1),none,(.dict ⟨[E P z63 381 (.str z64 194),E P z66 385 (.int 27 384),E P z67 386 (R 162),E P z4 387 N]⟩ 2),⟨[]⟩⟩
noncomputable def o164 (p : Program) (P : Params) : Obj := ⟨(.type y7),none,(.cls ⟨z25,[(R 31)],[(R 164),(R 31),(.type y4),(.type y8),(.type y9),(.type y10)],163,z25,true,[],[],false,none,false⟩),⟨[U (R 155),none,U (.str z25 374),U (.str z25 382),U (.builtin y11),U V1]⟩⟩
noncomputable def o165 (p : Program) (P : Params) : Obj := ⟨(.type y14),none,(.fields ⟨[(R 164),(R 164),(R 164)]⟩),⟨[]⟩⟩
noncomputable def o166 (p : Program) (P : Params) : Obj := ⟨(.type y5),none,(.fields ⟨[(.builtin y15),(R 164)]⟩),⟨[]⟩⟩
noncomputable def o167 (p : Program) (P : Params) : Obj := tu [(R 31)]
noncomputable def o168 (p : Program) (P : Params) : Obj := ⟨(.type y5),none,(.fields ⟨[(.builtin y6),(.type y7)]⟩),⟨[]⟩⟩
noncomputable def o169 (p : Program) (P : Params) : Obj := ⟨(.type y1),none,(.dict ⟨[E P z63 397 (.str z64 194),E P z65 399 (.str z26 398),E P z66 401 (.int 29 400),E P z67 402 (R 174)]⟩ 4),⟨[]⟩⟩
noncomputable def o170 (p : Program) (P : Params) : Obj := tu []
noncomputable def o171 (p : Program) (P : Params) : Obj := fi []
noncomputable def o172 (p : Program) (P : Params) : Obj := cd z26 392 29 0 0 170 false 171 N N N 395 396
noncomputable def o173 (p : Program) (P : Params) : Obj := ⟨(.type y0),none,.plain,⟨[U (R 172),U (R 3),U (R 169),none,U (.str z64 194),none,U (R 0)]⟩⟩
noncomputable def o174 (p : Program) (P : Params) : Obj := tu []
noncomputable def o175 (p : Program) (P : Params) : Obj := ⟨(.type y1),none,(.dict ⟨[E P z63 397 (.str z64 194),E P z66 401 (.int 29 400),E P z67 402 (R 174),E P z4 403 N]⟩ 2),⟨[]⟩⟩
noncomputable def o176 (p : Program) (P : Params) : Obj := ⟨(.type y7),none,(.cls ⟨z26,[(R 31)],[(R 176),(R 31),(.type y4),(.type y8),(.type y9),(.type y10)],175,z26,true,[],[],false,none,false⟩),⟨[U (R 167),none,U (.str z26 390),U (.str z26 398),U (.builtin y11),U V1]⟩⟩
noncomputable def o177 (p : Program) (P : Params) : Obj := ⟨(.type y14),none,(.fields ⟨[(R 176),(R 176),(R 176)]⟩),⟨[]⟩⟩
noncomputable def o178 (p : Program) (P : Params) : Obj := ⟨(.type y5),none,(.fields ⟨[(.builtin y15),(R 176)]⟩),⟨[]⟩⟩
noncomputable def o179 (p : Program) (P : Params) : Obj := tu [(R 31)]
noncomputable def o180 (p : Program) (P : Params) : Obj := ⟨(.type y5),none,(.fields ⟨[(.builtin y6),(.type y7)]⟩),⟨[]⟩⟩
noncomputable def o181 (p : Program) (P : Params) : Obj := ⟨(.type y1),none,(.dict ⟨[E P z63 413 (.str z64 194),E P z65 415 (.str z27 414),E P z66 417 (.int 31 416),E P z67 418 (R 186)]⟩ 4),⟨[]⟩⟩
noncomputable def o182 (p : Program) (P : Params) : Obj := tu []
noncomputable def o183 (p : Program) (P : Params) : Obj := fi []
noncomputable def o184 (p : Program) (P : Params) : Obj := cd z27 408 31 0 0 182 false 183 N N N 411 412
noncomputable def o185 (p : Program) (P : Params) : Obj := ⟨(.type y0),none,.plain,⟨[U (R 184),U (R 3),U (R 181),none,U (.str z64 194),none,U (R 0)]⟩⟩
noncomputable def o186 (p : Program) (P : Params) : Obj := tu []
noncomputable def o187 (p : Program) (P : Params) : Obj := ⟨(.type y1),none,(.dict ⟨[E P z63 413 (.str z64 194),E P z66 417 (.int 31 416),E P z67 418 (R 186),E P z4 419 N]⟩ 2),⟨[]⟩⟩
noncomputable def o188 (p : Program) (P : Params) : Obj := ⟨(.type y7),none,(.cls ⟨z27,[(R 31)],[(R 188),(R 31),(.type y4),(.type y8),(.type y9),(.type y10)],187,z27,true,[],[],false,none,false⟩),⟨[U (R 179),none,U (.str z27 406),U (.str z27 414),U (.builtin y11),U V1]⟩⟩
noncomputable def o189 (p : Program) (P : Params) : Obj := ⟨(.type y14),none,(.fields ⟨[(R 188),(R 188),(R 188)]⟩),⟨[]⟩⟩
noncomputable def o190 (p : Program) (P : Params) : Obj := ⟨(.type y5),none,(.fields ⟨[(.builtin y15),(R 188)]⟩),⟨[]⟩⟩
noncomputable def o191 (p : Program) (P : Params) : Obj := tu [(R 31)]
noncomputable def o192 (p : Program) (P : Params) : Obj := ⟨(.type y5),none,(.fields ⟨[(.builtin y6),(.type y7)]⟩),⟨[]⟩⟩
noncomputable def o193 (p : Program) (P : Params) : Obj := ⟨(.type y1),none,(.dict ⟨[E P z63 429 (.str z64 194),E P z65 431 (.str z28 430),E P z66 433 (.int 33 432),E P z67 434 (R 198)]⟩ 4),⟨[]⟩⟩
noncomputable def o194 (p : Program) (P : Params) : Obj := tu []
noncomputable def o195 (p : Program) (P : Params) : Obj := fi []
noncomputable def o196 (p : Program) (P : Params) : Obj := cd z28 424 33 0 0 194 false 195 N N N 427 428
noncomputable def o197 (p : Program) (P : Params) : Obj := ⟨(.type y0),none,.plain,⟨[U (R 196),U (R 3),U (R 193),none,U (.str z64 194),none,U (R 0)]⟩⟩
noncomputable def o198 (p : Program) (P : Params) : Obj := tu []
noncomputable def o199 (p : Program) (P : Params) : Obj := ⟨(.type y1),none,(.dict ⟨[E P z63 429 (.str z64 194),E P z66 433 (.int 33 432),E P z67 434 (R 198),E P z4 435 N]⟩ 2),⟨[]⟩⟩
noncomputable def o200 (p : Program) (P : Params) : Obj := ⟨(.type y7),none,(.cls ⟨z28,[(R 31)],[(R 200),(R 31),(.type y4),(.type y8),(.type y9),(.type y10)],199,z28,true,[],[],false,none,false⟩),⟨[U (R 191),none,U (.str z28 422),U (.str z28 430),U (.builtin y11),U V1]⟩⟩
noncomputable def o201 (p : Program) (P : Params) : Obj := ⟨(.type y14),none,(.fields ⟨[(R 200),(R 200),(R 200)]⟩),⟨[]⟩⟩
noncomputable def o202 (p : Program) (P : Params) : Obj := ⟨(.type y5),none,(.fields ⟨[(.builtin y15),(R 200)]⟩),⟨[]⟩⟩
noncomputable def o203 (p : Program) (P : Params) : Obj := tu []
noncomputable def o204 (p : Program) (P : Params) : Obj := fi []
noncomputable def o205 (p : Program) (P : Params) : Obj := tu [(.str z69 443),(.str z70 444)]
noncomputable def o206 (p : Program) (P : Params) : Obj := tu []
noncomputable def o207 (p : Program) (P : Params) : Obj := ⟨N,none,(.func ⟨z29,z29,defArgs (tp p 18),.stmts (defBody (tp p 18)),defScope (tp p 18),0,[],N,N,N,N,none,N,N,0⟩),⟨[]⟩⟩
noncomputable def o208 (p : Program) (P : Params) : Obj := cd z29 440 36 2 3 203 true 204 (R 205) (R 206) (R 207) 445 446
noncomputable def o209 (p : Program) (P : Params) : Obj := ⟨(.type y3),none,(F z29 z29 (tp p 18) N N N (.str z71 438) none (R 208) N),⟨[]⟩⟩
noncomputable def o210 (p : Program) (P : Params) : Obj := tu []
noncomputable def o211 (p : Program) (P : Params) : Obj := fi []
noncomputable def o212 (p : Program) (P : Params) : Obj := tu [(.str z72 451),(.str z73 452),(.str z74 453),(.str z75 454),(.str z76 455)]
noncomputable def o213 (p : Program) (P : Params) : Obj := tu []
noncomputable def o214 (p : Program) (P : Params) : Obj := ⟨N,none,(.func ⟨z30,z30,defArgs (tp p 19),.stmts (defBody (tp p 19)),defScope (tp p 19),0,[],N,N,N,N,none,N,N,0⟩),⟨[]⟩⟩
noncomputable def o215 (p : Program) (P : Params) : Obj := cd z30 448 38 4 3 210 true 211 (R 212) (R 213) (R 214) 456 457
noncomputable def o216 (p : Program) (P : Params) : Obj := ⟨(.type y3),none,(F z30 z30 (tp p 19) N N N (.str z71 438) none (R 215) N),⟨[]⟩⟩
noncomputable def o217 (p : Program) (P : Params) : Obj := tu []
noncomputable def o218 (p : Program) (P : Params) : Obj := fi []
noncomputable def o219 (p : Program) (P : Params) : Obj := tu [(.str z74 462),(.str z75 463),(.str z77 464),(.str z78 465),(.str z79 466)]
noncomputable def o220 (p : Program) (P : Params) : Obj := tu []
noncomputable def o221 (p : Program) (P : Params) : Obj := ⟨N,none,(.func ⟨z31,z31,defArgs (tp p 20),.stmts (defBody (tp p 20)),defScope (tp p 20),0,[],N,N,N,N,none,N,N,0⟩),⟨[]⟩⟩
noncomputable def o222 (p : Program) (P : Params) : Obj := cd z31 459 45 3 3 217 true 218 (R 219) (R 220) (R 221) 467 468
noncomputable def o223 (p : Program) (P : Params) : Obj := ⟨(.type y3),none,(F z31 z31 (tp p 20) N N N (.str z71 438) none (R 222) N),⟨[]⟩⟩
noncomputable def o224 (p : Program) (P : Params) : Obj := tu []
noncomputable def o225 (p : Program) (P : Params) : Obj := fi []
noncomputable def o226 (p : Program) (P : Params) : Obj := tu [(.str z72 473),(.str z73 474),(.str z74 475),(.str z80 476),(.str z81 477),(.str z82 478),(.str z75 479),(.str z76 480)]
noncomputable def o227 (p : Program) (P : Params) : Obj := tu []
noncomputable def o228 (p : Program) (P : Params) : Obj := ⟨N,none,(.func ⟨z32,z32,defArgs (tp p 21),.stmts (defBody (tp p 21)),defScope (tp p 21),0,[],N,N,N,N,none,N,N,0⟩),⟨[]⟩⟩
noncomputable def o229 (p : Program) (P : Params) : Obj := cd z32 470 51 4 3 224 true 225 (R 226) (R 227) (R 228) 481 482
noncomputable def o230 (p : Program) (P : Params) : Obj := ⟨(.type y3),none,(F z32 z32 (tp p 21) N N N (.str z71 438) none (R 229) N),⟨[]⟩⟩
noncomputable def o231 (p : Program) (P : Params) : Obj := tu []
noncomputable def o232 (p : Program) (P : Params) : Obj := fi []
noncomputable def o233 (p : Program) (P : Params) : Obj := tu [(.str z72 487),(.str z73 488),(.str z74 489),(.str z80 490)]
noncomputable def o234 (p : Program) (P : Params) : Obj := tu []
noncomputable def o235 (p : Program) (P : Params) : Obj := ⟨N,none,(.func ⟨z33,z33,defArgs (tp p 22),.stmts (defBody (tp p 22)),defScope (tp p 22),0,[],N,N,N,N,none,N,N,0⟩),⟨[]⟩⟩
noncomputable def o236 (p : Program) (P : Params) : Obj := cd z33 484 61 4 3 231 true 232 (R 233) (R 234) (R 235) 491 492
noncomputable def o237 (p : Program) (P : Params) : Obj := ⟨(.type y3),none,(F z33 z33 (tp p 22) N N N (.str z71 438) none (R 236) N),⟨[]⟩⟩
noncomputable def o238 (p : Program) (P : Params) : Obj := tu []
noncomputable def o239 (p : Program) (P : Params) : Obj := fi []
noncomputable def o240 (p : Program) (P : Params) : Obj := tu [(.str z83 501)]
noncomputable def o241 (p : Program) (P : Params) : Obj := tu []
noncomputable def o242 (p : Program) (P : Params) : Obj := ⟨N,none,(.func ⟨z35,z35,defArgs (tp p 25),.stmts (defBody (tp p 25)),defScope (tp p 25),0,[],N,N,N,N,none,N,N,0⟩),⟨[]⟩⟩
noncomputable def o243 (p : Program) (P : Params) : Obj := cd z35 498 65 1 3 238 true 239 (R 240) (R 241) (R 242) 502 503
noncomputable def o244 (p : Program) (P : Params) : Obj := ⟨(.type y3),none,(F z35 z35 (tp p 25) N N N (.str z84 494) none (R 243) N),⟨[]⟩⟩
noncomputable def o245 (p : Program) (P : Params) : Obj := tu []
noncomputable def o246 (p : Program) (P : Params) : Obj := fi []
noncomputable def o247 (p : Program) (P : Params) : Obj := ⟨N,none,(.func ⟨z36,z36,defArgs (tp p 26),.stmts (defBody (tp p 26)),defScope (tp p 26),0,[],N,N,N,N,none,N,N,0⟩),⟨[]⟩⟩
noncomputable def o248 (p : Program) (P : Params) : Obj := cd z36 505 67 1 3 245 true 246 N N (R 247) 508 509
noncomputable def o249 (p : Program) (P : Params) : Obj := ⟨(.type y3),none,(F z36 z36 (tp p 26) N N N (.str z84 494) none (R 248) N),⟨[]⟩⟩
noncomputable def o250 (p : Program) (P : Params) : Obj := tu []
noncomputable def o251 (p : Program) (P : Params) : Obj := fi []
noncomputable def o252 (p : Program) (P : Params) : Obj := tu [(.str z85 522),(.str z82 523),(.str z86 524)]
noncomputable def o253 (p : Program) (P : Params) : Obj := tu []
noncomputable def o254 (p : Program) (P : Params) : Obj := ⟨N,none,(.func ⟨z40,z40,defArgs (tp p 31),.stmts (defBody (tp p 31)),defScope (tp p 31),0,[],N,N,N,N,none,N,N,0⟩),⟨[]⟩⟩
noncomputable def o255 (p : Program) (P : Params) : Obj := cd z40 519 75 3 3 250 true 251 (R 252) (R 253) (R 254) 525 526
noncomputable def o256 (p : Program) (P : Params) : Obj := ⟨(.type y3),none,(F z40 z40 (tp p 31) N N N (.str z87 511) none (R 255) N),⟨[]⟩⟩
noncomputable def o257 (p : Program) (P : Params) : Obj := tu []
noncomputable def o258 (p : Program) (P : Params) : Obj := fi []
noncomputable def o259 (p : Program) (P : Params) : Obj := tu [(.str z88 531),(.str z82 532),(.str z85 533),(.str z86 534)]
noncomputable def o260 (p : Program) (P : Params) : Obj := tu []
noncomputable def o261 (p : Program) (P : Params) : Obj := ⟨N,none,(.func ⟨z41,z41,defArgs (tp p 32),.stmts (defBody (tp p 32)),defScope (tp p 32),0,[],N,N,N,N,none,N,N,0⟩),⟨[]⟩⟩
noncomputable def o262 (p : Program) (P : Params) : Obj := cd z41 528 77 4 3 257 true 258 (R 259) (R 260) (R 261) 535 536
noncomputable def o263 (p : Program) (P : Params) : Obj := ⟨(.type y3),none,(F z41 z41 (tp p 32) N N N (.str z87 511) none (R 262) N),⟨[]⟩⟩
noncomputable def o264 (p : Program) (P : Params) : Obj := tu []
noncomputable def o265 (p : Program) (P : Params) : Obj := fi []
noncomputable def o266 (p : Program) (P : Params) : Obj := tu [(.str z89 541),(.str z90 542),(.str z91 543)]
noncomputable def o267 (p : Program) (P : Params) : Obj := tu []
noncomputable def o268 (p : Program) (P : Params) : Obj := ⟨N,none,(.func ⟨z42,z42,defArgs (tp p 33),.stmts (defBody (tp p 33)),defScope (tp p 33),0,[],N,N,N,N,none,N,N,0⟩),⟨[]⟩⟩
noncomputable def o269 (p : Program) (P : Params) : Obj := cd z42 538 80 3 3 264 true 265 (R 266) (R 267) (R 268) 544 545
noncomputable def o270 (p : Program) (P : Params) : Obj := ⟨(.type y3),none,(F z42 z42 (tp p 33) N N N (.str z87 511) none (R 269) N),⟨[]⟩⟩
noncomputable def o271 (p : Program) (P : Params) : Obj := tu []
noncomputable def o272 (p : Program) (P : Params) : Obj := fi []
noncomputable def o273 (p : Program) (P : Params) : Obj := tu [(.str z92 550),(.str z93 551),(.str z89 552),(.str z90 553),(.str z91 554)]
noncomputable def o274 (p : Program) (P : Params) : Obj := tu []
noncomputable def o275 (p : Program) (P : Params) : Obj := ⟨N,none,(.func ⟨z43,z43,defArgs (tp p 34),.stmts (defBody (tp p 34)),defScope (tp p 34),0,[],N,N,N,N,none,N,N,0⟩),⟨[]⟩⟩
noncomputable def o276 (p : Program) (P : Params) : Obj := cd z43 547 87 1 3 271 true 272 (R 273) (R 274) (R 275) 555 556
noncomputable def o277 (p : Program) (P : Params) : Obj := ⟨(.type y3),none,(F z43 z43 (tp p 34) N N N (.str z87 511) none (R 276) N),⟨[]⟩⟩
noncomputable def o278 (p : Program) (P : Params) : Obj := tu []
noncomputable def o279 (p : Program) (P : Params) : Obj := ⟨(.type y5),none,(.fields ⟨[(.builtin y6),(.type y7)]⟩),⟨[]⟩⟩
noncomputable def o280 (p : Program) (P : Params) : Obj := ⟨(.type y1),none,(.dict ⟨[E P z63 565 (.str z87 511),E P z65 567 (.str z44 566),E P z66 569 (.int 97 568),E P z94 583 (R 292),E P z95 593 (R 299),E P z96 600 (R 306),E P z67 608 (R 307)]⟩ 7),⟨[]⟩⟩
noncomputable def o281 (p : Program) (P : Params) : Obj := tu []
noncomputable def o282 (p : Program) (P : Params) : Obj := fi [(I 99),(I 4),(R 291),(I 113),(I 4),(R 298),(I 121),(I 4),(R 305)]
noncomputable def o283 (p : Program) (P : Params) : Obj := cd z44 560 97 0 0 281 false 282 N N N 563 564
noncomputable def o284 (p : Program) (P : Params) : Obj := ⟨(.type y0),none,.plain,⟨[U (R 283),U (R 3),U (R 280),none,U (.str z87 511),none,U (R 0)]⟩⟩
noncomputable def o285 (p : Program) (P : Params) : Obj := tu [(.int 50 570),N]
noncomputable def o286 (p : Program) (P : Params) : Obj := tu []
noncomputable def o287 (p : Program) (P : Params) : Obj := fi []
noncomputable def o288 (p : Program) (P : Params) : Obj := tu [(.str z97 574),(.str z98 575),(.str z99 576),(.str z100 577),(.str z101 578),(.str z102 579),(.str z92 580)]
noncomputable def o289 (p : Program) (P : Params) : Obj := tu []
noncomputable def o290 (p : Program) (P : Params) : Obj := ⟨N,none,(.func ⟨z94,z103,defArgs (inClass (tp p 35) 0),.stmts (defBody (inClass (tp p 35) 0)),defScope (inClass (tp p 35) 0),0,[],N,N,N,N,none,N,N,0⟩),⟨[]⟩⟩
noncomputable def o291 (p : Program) (P : Params) : Obj := ⟨(.type y16),none,(.fields ⟨[(.str z94 571),(.str z103 572),(.str z11 573),(I 99),(I 7),(I 0),(I 0),(I 3),(R 286),V1,(I 181),(R 287),N,(R 288),(R 289),(R 290),(I 581),(I 99),(.str z11 582)]⟩),⟨[]⟩⟩
noncomputable def o292 (p : Program) (P : Params) : Obj := ⟨(.type y3),none,(F z94 z103 (inClass (tp p 35) 0) (R 285) N N (.str z87 511) none (R 291) N),⟨[]⟩⟩
noncomputable def o293 (p : Program) (P : Params) : Obj := tu []
noncomputable def o294 (p : Program) (P : Params) : Obj := fi []
noncomputable def o295 (p : Program) (P : Params) : Obj := tu [(.str z97 587),(.str z89 588),(.str z90 589),(.str z91 590)]
noncomputable def o296 (p : Program) (P : Params) : Obj := tu []
noncomputable def o297 (p : Program) (P : Params) : Obj := ⟨N,none,(.func ⟨z95,z104,defArgs (inClass (tp p 35) 1),.stmts (defBody (inClass (tp p 35) 1)),defScope (inClass (tp p 35) 1),0,[],N,N,N,N,none,N,N,0⟩),⟨[]⟩⟩
noncomputable def o298 (p : Program) (P : Params) : Obj := ⟨(.type y16),none,(.fields ⟨[(.str z95 584),(.str z104 585),(.str z11 586),(I 113),(I 3),(I 0),(I 0),(I 3),(R 293),V1,(I 181),(R 294),N,(R 295),(R 296),(R 297),(I 591),(I 113),(.str z11 592)]⟩),⟨[]⟩⟩
noncomputable def o299 (p : Program) (P : Params) : Obj := ⟨(.type y3),none,(F z95 z104 (inClass (tp p 35) 1) N N N (.str z87 511) none (R 298) N),⟨[]⟩⟩
noncomputable def o300 (p : Program) (P : Params) : Obj := tu []
noncomputable def o301 (p : Program) (P : Params) : Obj := fi []
noncomputable def o302 (p : Program) (P : Params) : Obj := tu [(.str z97 597)]
noncomputable def o303 (p : Program) (P : Params) : Obj := tu []
noncomputable def o304 (p : Program) (P : Params) : Obj := ⟨N,none,(.func ⟨z96,z105,defArgs (inClass (tp p 35) 2),.stmts (defBody (inClass (tp p 35) 2)),defScope (inClass (tp p 35) 2),0,[],N,N,N,N,none,N,N,0⟩),⟨[]⟩⟩
noncomputable def o305 (p : Program) (P : Params) : Obj := ⟨(.type y16),none,(.fields ⟨[(.str z96 594),(.str z105 595),(.str z11 596),(I 121),(I 1),(I 0),(I 0),(I 3),(R 300),V1,(I 181),(R 301),N,(R 302),(R 303),(R 304),(I 598),(I 121),(.str z11 599)]⟩),⟨[]⟩⟩
noncomputable def o306 (p : Program) (P : Params) : Obj := ⟨(.type y3),none,(F z96 z105 (inClass (tp p 35) 2) N N N (.str z87 511) none (R 305) N),⟨[]⟩⟩
noncomputable def o307 (p : Program) (P : Params) : Obj := tu [(.str z100 601),(.str z101 602),(.str z92 603),(.str z99 604),(.str z102 605),(.str z93 606),(.str z98 607)]
noncomputable def o308 (p : Program) (P : Params) : Obj := ⟨(.type y1),none,(.dict ⟨[E P z63 565 (.str z87 511),E P z66 569 (.int 97 568),E P z94 583 (R 292),E P z95 593 (R 299),E P z96 600 (R 306),E P z67 608 (R 307),E P z106 610 (R 310),E P z68 612 (R 311),E P z4 613 N]⟩ 4),⟨[]⟩⟩
noncomputable def o309 (p : Program) (P : Params) : Obj := ⟨(.type y7),none,(.cls ⟨z44,[(.type y10)],[(R 309),(.type y10)],308,z44,true,[],[],false,none,false⟩),⟨[none,none,U (.str z44 558),U (.str z44 566),U (.builtin y17),U V1]⟩⟩
noncomputable def o310 (p : Program) (P : Params) : Obj := ⟨(.type y12),none,(.fields ⟨[(.str z106 609),(R 309),(.builtin y18),(.builtin y19)]⟩),⟨[]⟩⟩
noncomputable def o311 (p : Program) (P : Params) : Obj := ⟨(.type y12),none,(.fields ⟨[(.str z68 611),(R 309),(.builtin y13),N]⟩),⟨[]⟩⟩
noncomputable def o312 (p : Program) (P : Params) : Obj := ⟨(.type y14),none,(.fields ⟨[(R 309),(R 309),(R 309)]⟩),⟨[]⟩⟩
noncomputable def o313 (p : Program) (P : Params) : Obj := ⟨(.type y5),none,(.fields ⟨[(.builtin y15),(R 309)]⟩),⟨[]⟩⟩
noncomputable def o314 (p : Program) (P : Params) : Obj := tu []
noncomputable def o315 (p : Program) (P : Params) : Obj := fi []
noncomputable def o316 (p : Program) (P : Params) : Obj := tu [(.str z107 621),(.str z108 622)]
noncomputable def o317 (p : Program) (P : Params) : Obj := tu []
noncomputable def o318 (p : Program) (P : Params) : Obj := ⟨N,none,(.func ⟨z45,z45,defArgs (tp p 37),.stmts (defBody (tp p 37)),defScope (tp p 37),0,[],N,N,N,N,none,N,N,0⟩),⟨[]⟩⟩
noncomputable def o319 (p : Program) (P : Params) : Obj := cd z45 618 124 2 3 314 true 315 (R 316) (R 317) (R 318) 623 624
noncomputable def o320 (p : Program) (P : Params) : Obj := ⟨(.type y3),none,(F z45 z45 (tp p 37) N N N (.str z3 616) none (R 319) N),⟨[]⟩⟩
noncomputable def o321 (p : Program) (P : Params) : Obj := tu []
noncomputable def o322 (p : Program) (P : Params) : Obj := fi []
noncomputable def o323 (p : Program) (P : Params) : Obj := tu [(.str z109 629)]
noncomputable def o324 (p : Program) (P : Params) : Obj := tu []
noncomputable def o325 (p : Program) (P : Params) : Obj := ⟨N,none,(.func ⟨z46,z46,defArgs (tp p 38),.stmts (defBody (tp p 38)),defScope (tp p 38),0,[],N,N,N,N,none,N,N,0⟩),⟨[]⟩⟩
noncomputable def o326 (p : Program) (P : Params) : Obj := cd z46 626 128 1 3 321 true 322 (R 323) (R 324) (R 325) 630 631
noncomputable def o327 (p : Program) (P : Params) : Obj := ⟨(.type y3),none,(F z46 z46 (tp p 38) N N N (.str z3 616) none (R 326) N),⟨[]⟩⟩
noncomputable def o328 (p : Program) (P : Params) : Obj := tu []
noncomputable def o329 (p : Program) (P : Params) : Obj := fi []
noncomputable def o330 (p : Program) (P : Params) : Obj := tu [(.str z110 636),(.str z111 637),(.str z112 638),(.str z113 639),(.str z114 640),(.str z115 641),(.str z108 642),(.str z116 643),(.str z109 644),(.str z117 645),(.str z118 646)]
noncomputable def o331 (p : Program) (P : Params) : Obj := tu []
noncomputable def o332 (p : Program) (P : Params) : Obj := ⟨N,none,(.func ⟨z47,z47,defArgs (tp p 39),.stmts (defBody (tp p 39)),defScope (tp p 39),0,[],N,N,N,N,none,N,N,0⟩),⟨[]⟩⟩
noncomputable def o333 (p : Program) (P : Params) : Obj := cd z47 633 130 3 3 328 true 329 (R 330) (R 331) (R 332) 647 648
noncomputable def o334 (p : Program) (P : Params) : Obj := ⟨(.type y3),none,(F z47 z47 (tp p 39) N N N (.str z3 616) none (R 333) N),⟨[]⟩⟩
noncomputable def o335 (p : Program) (P : Params) : Obj := tu []
noncomputable def o336 (p : Program) (P : Params) : Obj := fi []
noncomputable def o337 (p : Program) (P : Params) : Obj := tu [(.str z107 653),(.str z110 654),(.str z117 655),(.str z112 656),(.str z119 657),(.str z120 658),(.str z115 659),(.str z108 660)]
noncomputable def o338 (p : Program) (P : Params) : Obj := tu []
noncomputable def o339 (p : Program) (P : Params) : Obj := ⟨N,none,(.func ⟨z48,z48,defArgs (tp p 40),.stmts (defBody (tp p 40)),defScope (tp p 40),0,[],N,N,N,N,none,N,N,0⟩),⟨[]⟩⟩
noncomputable def o340 (p : Program) (P : Params) : Obj := cd z48 650 147 5 3 335 true 336 (R 337) (R 338) (R 339) 661 662
noncomputable def o341 (p : Program) (P : Params) : Obj := ⟨(.type y3),none,(F z48 z48 (tp p 40) N N N (.str z3 616) none (R 340) N),⟨[]⟩⟩
noncomputable def o342 (p : Program) (P : Params) : Obj := tu []
noncomputable def o343 (p : Program) (P : Params) : Obj := fi []
noncomputable def o344 (p : Program) (P : Params) : Obj := tu [(.str z107 667),(.str z110 668),(.str z117 669),(.str z112 670),(.str z121 671),(.str z119 672),(.str z120 673),(.str z115 674),(.str z122 675),(.str z108 676),(.str z123 677)]
noncomputable def o345 (p : Program) (P : Params) : Obj := tu []
noncomputable def o346 (p : Program) (P : Params) : Obj := ⟨N,none,(.func ⟨z49,z49,defArgs (tp p 41),.stmts (defBody (tp p 41)),defScope (tp p 41),0,[],N,N,N,N,none,N,N,0⟩),⟨[]⟩⟩
noncomputable def o347 (p : Program) (P : Params) : Obj := cd z49 664 154 6 3 342 true 343 (R 344) (R 345) (R 346) 678 679
noncomputable def o348 (p : Program) (P : Params) : Obj := ⟨(.type y3),none,(F z49 z49 (tp p 41) N N N (.str z3 616) none (R 347) N),⟨[]⟩⟩
noncomputable def o349 (p : Program) (P : Params) : Obj := tu []
noncomputable def o350 (p : Program) (P : Params) : Obj := fi []
noncomputable def o351 (p : Program) (P : Params) : Obj := ⟨N,none,(.func ⟨z50,z50,defArgs (tp p 42),.stmts (defBody (tp p 42)),defScope (tp p 42),0,[],N,N,N,N,none,N,N,0⟩),⟨[]⟩⟩
noncomputable def o352 (p : Program) (P : Params) : Obj := cd z50 681 168 2 3 349 true 350 N N (R 351) 684 685
noncomputable def o353 (p : Program) (P : Params) : Obj := ⟨(.type y3),none,(F z50 z50 (tp p 42) N N N (.str z3 616) none (R 352) N),⟨[]⟩⟩
noncomputable def o354 (p : Program) (P : Params) : Obj := tu []
noncomputable def o355 (p : Program) (P : Params) : Obj := fi []
noncomputable def o356 (p : Program) (P : Params) : Obj := tu [(.str z110 690),(.str z119 691),(.str z124 692),(.str z109 693),(.str z115 694),(.str z125 695),(.str z126 696),(.str z127 697)]
noncomputable def o357 (p : Program) (P : Params) : Obj := tu []
noncomputable def o358 (p : Program) (P : Params) : Obj := ⟨N,none,(.func ⟨z51,z51,defArgs (tp p 43),.stmts (defBody (tp p 43)),defScope (tp p 43),0,[],N,N,N,N,none,N,N,0⟩),⟨[]⟩⟩
noncomputable def o359 (p : Program) (P : Params) : Obj := cd z51 687 176 3 3 354 true 355 (R 356) (R 357) (R 358) 698 699
noncomputable def o360 (p : Program) (P : Params) : Obj := ⟨(.type y3),none,(F z51 z51 (tp p 43) N N N (.str z3 616) none (R 359) N),⟨[]⟩⟩
noncomputable def o361 (p : Program) (P : Params) : Obj := tu []
noncomputable def o362 (p : Program) (P : Params) : Obj := fi []
noncomputable def o363 (p : Program) (P : Params) : Obj := tu [(.str z107 704),(.str z128 705),(.str z112 706),(.str z119 707),(.str z129 708),(.str z111 709),(.str z121 710),(.str z130 711),(.str z131 712)]
noncomputable def o364 (p : Program) (P : Params) : Obj := tu []
noncomputable def o365 (p : Program) (P : Params) : Obj := ⟨N,none,(.func ⟨z52,z52,defArgs (tp p 44),.stmts (defBody (tp p 44)),defScope (tp p 44),0,[],N,N,N,N,none,N,N,0⟩),⟨[]⟩⟩
noncomputable def o366 (p : Program) (P : Params) : Obj := cd z52 701 190 2 3 361 true 362 (R 363) (R 364) (R 365) 713 714
noncomputable def o367 (p : Program) (P : Params) : Obj := ⟨(.type y3),none,(F z52 z52 (tp p 44) N N N (.str z3 616) none (R 366) N),⟨[]⟩⟩
noncomputable def o368 (p : Program) (P : Params) : Obj := tu []
noncomputable def o369 (p : Program) (P : Params) : Obj := fi []
noncomputable def o370 (p : Program) (P : Params) : Obj := tu [(.str z125 719),(.str z126 720),(.str z124 721),(.str z132 722),(.str z133 723),(.str z134 724),(.str z127 725)]
noncomputable def o371 (p : Program) (P : Params) : Obj := tu []
noncomputable def o372 (p : Program) (P : Params) : Obj := ⟨N,none,(.func ⟨z53,z53,defArgs (tp p 45),.stmts (defBody (tp p 45)),defScope (tp p 45),0,[],N,N,N,N,none,N,N,0⟩),⟨[]⟩⟩
noncomputable def o373 (p : Program) (P : Params) : Obj := cd z53 716 199 4 3 368 true 369 (R 370) (R 371) (R 372) 726 727
noncomputable def o374 (p : Program) (P : Params) : Obj := ⟨(.type y3),none,(F z53 z53 (tp p 45) N N N (.str z3 616) none (R 373) N),⟨[]⟩⟩
noncomputable def o375 (p : Program) (P : Params) : Obj := tu []
noncomputable def o376 (p : Program) (P : Params) : Obj := fi []
noncomputable def o377 (p : Program) (P : Params) : Obj := tu [(.str z135 732),(.str z136 733),(.str z137 734),(.str z108 735),(.str z138 736),(.str z139 737),(.str z140 738)]
noncomputable def o378 (p : Program) (P : Params) : Obj := tu []
noncomputable def o379 (p : Program) (P : Params) : Obj := ⟨N,none,(.func ⟨z54,z54,defArgs (tp p 46),.stmts (defBody (tp p 46)),defScope (tp p 46),0,[],N,N,N,N,none,N,N,0⟩),⟨[]⟩⟩
noncomputable def o380 (p : Program) (P : Params) : Obj := cd z54 729 206 2 3 375 true 376 (R 377) (R 378) (R 379) 739 740
noncomputable def o381 (p : Program) (P : Params) : Obj := ⟨(.type y3),none,(F z54 z54 (tp p 46) N N N (.str z3 616) none (R 380) N),⟨[]⟩⟩
noncomputable def o382 (p : Program) (P : Params) : Obj := tu []
noncomputable def o383 (p : Program) (P : Params) : Obj := fi []
noncomputable def o384 (p : Program) (P : Params) : Obj := tu [(.str z135 745),(.str z110 746),(.str z136 747),(.str z115 748),(.str z138 749),(.str z139 750),(.str z140 751),(.str z141 752)]
noncomputable def o385 (p : Program) (P : Params) : Obj := tu []
noncomputable def o386 (p : Program) (P : Params) : Obj := ⟨N,none,(.func ⟨z55,z55,defArgs (tp p 47),.stmts (defBody (tp p 47)),defScope (tp p 47),0,[],N,N,N,N,none,N,N,0⟩),⟨[]⟩⟩
noncomputable def o387 (p : Program) (P : Params) : Obj := cd z55 742 218 2 3 382 true 383 (R 384) (R 385) (R 386) 753 754
noncomputable def o388 (p : Program) (P : Params) : Obj := ⟨(.type y3),none,(F z55 z55 (tp p 47) N N N (.str z3 616) none (R 387) N),⟨[]⟩⟩
noncomputable def o389 (p : Program) (P : Params) : Obj := tu []
noncomputable def o390 (p : Program) (P : Params) : Obj := fi []
noncomputable def o391 (p : Program) (P : Params) : Obj := tu [(.str z109 759),(.str z142 760),(.str z108 761)]
noncomputable def o392 (p : Program) (P : Params) : Obj := tu []
noncomputable def o393 (p : Program) (P : Params) : Obj := ⟨N,none,(.func ⟨z56,z56,defArgs (tp p 48),.stmts (defBody (tp p 48)),defScope (tp p 48),0,[],N,N,N,N,none,N,N,0⟩),⟨[]⟩⟩
noncomputable def o394 (p : Program) (P : Params) : Obj := cd z56 756 230 2 3 389 true 390 (R 391) (R 392) (R 393) 762 763
noncomputable def o395 (p : Program) (P : Params) : Obj := ⟨(.type y3),none,(F z56 z56 (tp p 48) N N N (.str z3 616) none (R 394) N),⟨[]⟩⟩
noncomputable def o396 (p : Program) (P : Params) : Obj := tu []
noncomputable def o397 (p : Program) (P : Params) : Obj := fi []
noncomputable def o398 (p : Program) (P : Params) : Obj := tu [(.str z143 768),(.str z141 769),(.str z144 770),(.str z145 771)]
noncomputable def o399 (p : Program) (P : Params) : Obj := tu []
noncomputable def o400 (p : Program) (P : Params) : Obj := ⟨N,none,(.func ⟨z57,z57,defArgs (tp p 49),.stmts (defBody (tp p 49)),defScope (tp p 49),0,[],N,N,N,N,none,N,N,0⟩),⟨[]⟩⟩
noncomputable def o401 (p : Program) (P : Params) : Obj := cd z57 765 237 1 3 396 true 397 (R 398) (R 399) (R 400) 772 773
noncomputable def o402 (p : Program) (P : Params) : Obj := ⟨(.type y3),none,(F z57 z57 (tp p 49) N N N (.str z3 616) none (R 401) N),⟨[]⟩⟩
noncomputable def o403 (p : Program) (P : Params) : Obj := tu []
noncomputable def o404 (p : Program) (P : Params) : Obj := fi []
noncomputable def o405 (p : Program) (P : Params) : Obj := tu [(.str z135 778),(.str z146 779)]
noncomputable def o406 (p : Program) (P : Params) : Obj := tu []
noncomputable def o407 (p : Program) (P : Params) : Obj := ⟨N,none,(.func ⟨z58,z58,defArgs (tp p 50),.stmts (defBody (tp p 50)),defScope (tp p 50),0,[],N,N,N,N,none,N,N,0⟩),⟨[]⟩⟩
noncomputable def o408 (p : Program) (P : Params) : Obj := cd z58 775 246 1 3 403 true 404 (R 405) (R 406) (R 407) 780 781
noncomputable def o409 (p : Program) (P : Params) : Obj := ⟨(.type y3),none,(F z58 z58 (tp p 50) N N N (.str z3 616) none (R 408) N),⟨[]⟩⟩
noncomputable def o410 (p : Program) (P : Params) : Obj := tu []
noncomputable def o411 (p : Program) (P : Params) : Obj := fi []
noncomputable def o412 (p : Program) (P : Params) : Obj := tu [(.str z135 786),(.str z136 787),(.str z108 788),(.str z138 789),(.str z139 790)]
noncomputable def o413 (p : Program) (P : Params) : Obj := tu []
noncomputable def o414 (p : Program) (P : Params) : Obj := ⟨N,none,(.func ⟨z59,z59,defArgs (tp p 51),.stmts (defBody (tp p 51)),defScope (tp p 51),0,[],N,N,N,N,none,N,N,0⟩),⟨[]⟩⟩
noncomputable def o415 (p : Program) (P : Params) : Obj := cd z59 783 249 2 3 410 true 411 (R 412) (R 413) (R 414) 791 792
noncomputable def o416 (p : Program) (P : Params) : Obj := ⟨(.type y3),none,(F z59 z59 (tp p 51) N N N (.str z3 616) none (R 415) N),⟨[]⟩⟩
noncomputable def o417 (p : Program) (P : Params) : Obj := tu []
noncomputable def o418 (p : Program) (P : Params) : Obj := fi []
noncomputable def o419 (p : Program) (P : Params) : Obj := tu [(.str z135 797),(.str z136 798),(.str z123 799),(.str z110 800),(.str z147 801),(.str z117 802),(.str z111 803),(.str z148 804)]
noncomputable def o420 (p : Program) (P : Params) : Obj := tu []
noncomputable def o421 (p : Program) (P : Params) : Obj := ⟨N,none,(.func ⟨z60,z60,defArgs (tp p 52),.stmts (defBody (tp p 52)),defScope (tp p 52),0,[],N,N,N,N,none,N,N,0⟩),⟨[]⟩⟩
noncomputable def o422 (p : Program) (P : Params) : Obj := cd z60 794 259 4 3 417 true 418 (R 419) (R 420) (R 421) 805 806
noncomputable def o423 (p : Program) (P : Params) : Obj := ⟨(.type y3),none,(F z60 z60 (tp p 52) N N N (.str z3 616) none (R 422) N),⟨[]⟩⟩
noncomputable def o424 (p : Program) (P : Params) : Obj := tu []
noncomputable def o425 (p : Program) (P : Params) : Obj := fi []
noncomputable def o426 (p : Program) (P : Params) : Obj := ⟨N,none,(.func ⟨z61,z61,defArgs (tp p 53),.stmts (defBody (tp p 53)),defScope (tp p 53),0,[],N,N,N,N,none,N,N,0⟩),⟨[]⟩⟩
noncomputable def o427 (p : Program) (P : Params) : Obj := cd z61 808 282 1 3 424 true 425 N N (R 426) 811 812
noncomputable def o428 (p : Program) (P : Params) : Obj := ⟨(.type y3),none,(F z61 z61 (tp p 53) N N N (.str z3 616) none (R 427) N),⟨[]⟩⟩
noncomputable def La (p : Program) (P : Params) : List Obj := [b0 p P,b1 p P,b2 p P,b3 p P,b4 p P,b5 p P,b6 p P,b7 p P,b8 p P,b9 p P,b10 p P,a11 p P,a12 p P,a13 p P,a14 p P]
noncomputable def Lf (p : Program) (P : Params) : List Obj := [b0 p P,b1 p P,b2 p P,o3 p P,b4 p P,b5 p P,b6 p P,b7 p P,b8 p P,b9 p P,b10 p P,a11 p P,o12 p P,a13 p P,a14 p P,o15 p P,o16 p P,o17 p P,o18 p P,o19 p P,o20 p P,o21 p P,o22 p P,o23 p P,o24 p P,o25 p P,o26 p P,o27 p P,o28 p P,o29 p P,o30 p P,o31 p P,o32 p P,o33 p P,o34 p P,o35 p P,o36 p P,o37 p P,o38 p P,o39 p P,o40 p P,o41 p P,o42 p P,o43 p P,o44 p P,o45 p P,o46 p P,o47 p P,o48 p P,o49 p P,o50 p P,o51 p P,o52 p P,o53 p P,o54 p P,o55 p P,o56 p P,o57 p P,o58 p P,o59 p P,o60 p P,o61 p P,o62 p P,o63 p P,o64 p P,o65 p P,o66 p P,o67 p P,o68 p P,o69 p P,o70 p P,o71 p P,o72 p P,o73 p P,o74 p P,o75 p P,o76 p P,o77 p P,o78 p P,o79 p P,o80 p P,o81 p P,o82 p P,o83 p P,o84 p P,o85 p P,o86 p P,o87 p P,o88 p P,o89 p P,o90 p P,o91 p P,o92 p P,o93 p P,o94 p P,o95 p P,o96 p P,o97 p P,o98 p P,o99 p P,o100 p P,o101 p P,o102 p P,o103 p P,o104 p P,o105 p P,o106 p P,o107 p P,o108 p P,o109 p P,o110 p P,o111 p P,o112 p P,o113 p P,o114 p P,o115 p P,o116 p P,o117 p P,o118 p P,o119 p P,o120 p P,o121 p P,o122 p P,o123 p P,o124 p P,o125 p P,o126 p P,o127 p P,o128 p P,o129 p P,o130 p P,o131 p P,o132 p P,o133 p P,o134 p P,o135 p P,o136 p P,o137 p P,o138 p P,o139 p P,o140 p P,o141 p P,o142 p P,o143 p P,o144 p P,o145 p P,o146 p P,o147 p P,o148 p P,o149 p P,o150 p P,o151 p P,o152 p P,o153 p P,o154 p P,o155 p P,o156 p P,o157 p P,o158 p P,o159 p P,o160 p P,o161 p P,o162 p P,o163 p P,o164 p P,o165 p P,o166 p P,o167 p P,o168 p P,o169 p P,o170 p P,o171 p P,o172 p P,o173 p P,o174 p P,o175 p P,o176 p P,o177 p P,o178 p P,o179 p P,o180 p P,o181 p P,o182 p P,o183 p P,o184 p P,o185 p P,o186 p P,o187 p P,o188 p P,o189 p P,o190 p P,o191 p P,o192 p P,o193 p P,o194 p P,o195 p P,o196 p P,o197 p P,o198 p P,o199 p P,o200 p P,o201 p P,o202 p P,o203 p P,o204 p P,o205 p P,o206 p P,o207 p P,o208 p P,o209 p P,o210 p P,o211 p P,o212 p P,o213 p P,o214 p P,o215 p P,o216 p P,o217 p P,o218 p P,o219 p P,o220 p P,o221 p P,o222 p P,o223 p P,o224 p P,o225 p P,o226 p P,o227 p P,o228 p P,o229 p P,o230 p P,o231 p P,o232 p P,o233 p P,o234 p P,o235 p P,o236 p P,o237 p P,o238 p P,o239 p P,o240 p P,o241 p P,o242 p P,o243 p P,o244 p P,o245 p P,o246 p P,o247 p P,o248 p P,o249 p P,o250 p P,o251 p P,o252 p P,o253 p P,o254 p P,o255 p P,o256 p P,o257 p P,o258 p P,o259 p P,o260 p P,o261 p P,o262 p P,o263 p P,o264 p P,o265 p P,o266 p P,o267 p P,o268 p P,o269 p P,o270 p P,o271 p P,o272 p P,o273 p P,o274 p P,o275 p P,o276 p P,o277 p P,o278 p P,o279 p P,o280 p P,o281 p P,o282 p P,o283 p P,o284 p P,o285 p P,o286 p P,o287 p P,o288 p P,o289 p P,o290 p P,o291 p P,o292 p P,o293 p P,o294 p P,o295 p P,o296 p P,o297 p P,o298 p P,o299 p P,o300 p P,o301 p P,o302 p P,o303 p P,o304 p P,o305 p P,o306 p P,o307 p P,o308 p P,o309 p P,o310 p P,o311 p P,o312 p P,o313 p P,o314 p P,o315 p P,o316 p P,o317 p P,o318 p P,o319 p P,o320 p P,o321 p P,o322 p P,o323 p P,o324 p P,o325 p P,o326 p P,o327 p P,o328 p P,o329 p P,o330 p P,o331 p P,o332 p P,o333 p P,o334 p P,o335 p P,o336 p P,o337 p P,o338 p P,o339 p P,o340 p P,o341 p P,o342 p P,o343 p P,o344 p P,o345 p P,o346 p P,o347 p P,o348 p P,o349 p P,o350 p P,o351 p P,o352 p P,o353 p P,o354 p P,o355 p P,o356 p P,o357 p P,o358 p P,o359 p P,o360 p P,o361 p P,o362 p P,o363 p P,o364 p P,o365 p P,o366 p P,o367 p P,o368 p P,o369 p P,o370 p P,o371 p P,o372 p P,o373 p P,o374 p P,o375 p P,o376 p P,o377 p P,o378 p P,o379 p P,o380 p P,o381 p P,o382 p P,o383 p P,o384 p P,o385 p P,o386 p P,o387 p P,o388 p P,o389 p P,o390 p P,o391 p P,o392 p P,o393 p P,o394 p P,o395 p P,o396 p P,o397 p P,o398 p P,o399 p P,o400 p P,o401 p P,o402 p P,o403 p P,o404 p P,o405 p P,o406 p P,o407 p P,o408 p P,o409 p P,o410 p P,o411 p P,o412 p P,o413 p P,o414 p P,o415 p P,o416 p P,o417 p P,o418 p P,o419 p P,o420 p P,o421 p P,o422 p P,o423 p P,o424 p P,o425 p P,o426 p P,o427 p P,o428 p P]
noncomputable def Ta (p : Program) (P : Params) : BT := (B (b0 p P) (B (b1 p P) (B (b3 p P) (B (b7 p P) L L) (B (a11 p P) L L)) (B (b5 p P) (B (b9 p P) L L) (B (a13 p P) L L))) (B (b2 p P) (B (b4 p P) (B (b8 p P) L L) (B (a12 p P) L L)) (B (b6 p P) (B (b10 p P) L L) (B (a14 p P) L L))))
noncomputable def Tf (p : Program) (P : Params) : BT := (B (b0 p P) (B (b1 p P) (B (o3 p P) (B (b7 p P) (B (o15 p P) (B (o31 p P) (B (o63 p P) (B (o127 p P) (B (o255 p P) L L) (B (o383 p P) L L)) (B (o191 p P) (B (o319 p P) L L) L)) (B (o95 p P) (B (o159 p P) (B (o287 p P) L L) (B (o415 p P) L L)) (B (o223 p P) (B (o351 p P) L L) L))) (B (o47 p P) (B (o79 p P) (B (o143 p P) (B (o271 p P) L L) (B (o399 p P) L L)) (B (o207 p P) (B (o335 p P) L L) L)) (B (o111 p P) (B (o175 p P) (B (o303 p P) L L) L) (B (o239 p P) (B (o367 p P) L L) L)))) (B (o23 p P) (B (o39 p P) (B (o71 p P) (B (o135 p P) (B (o263 p P) L L) (B (o391 p P) L L)) (B (o199 p P) (B (o327 p P) L L) L)) (B (o103 p P) (B (o167 p P) (B (o295 p P) L L) (B (o423 p P) L L)) (B (o231 p P) (B (o359 p P) L L) L))) (B (o55 p P) (B (o87 p P) (B (o151 p P) (B (o279 p P) L L) (B (o407 p P) L L)) (B (o215 p P) (B (o343 p P) L L) L)) (B (o119 p P) (B (o183 p P) (B (o311 p P) L L) L) (B (o247 p P) (B (o375 p P) L L) L))))) (B (a11 p P) (B (o19 p P) (B (o35 p P) (B (o67 p P) (B (o131 p P) (B (o259 p P) L L) (B (o387 p P) L L)) (B (o195 p P) (B (o323 p P) L L) L)) (B (o99 p P) (B (o163 p P) (B (o291 p P) L L) (B (o419 p P) L L)) (B (o227 p P) (B (o355 p P) L L) L))) (B (o51 p P) (B (o83 p P) (B (o147 p P) (B (o275 p P) L L) (B (o403 p P) L L)) (B (o211 p P) (B (o339 p P) L L) L)) (B (o115 p P) (B (o179 p P) (B (o307 p P) L L) L) (B (o243 p P) (B (o371 p P) L L) L)))) (B (o27 p P) (B (o43 p P) (B (o75 p P) (B (o139 p P) (B (o267 p P) L L) (B (o395 p P) L L)) (B (o203 p P) (B (o331 p P) L L) L)) (B (o107 p P) (B (o171 p P) (B (o299 p P) L L) (B (o427 p P) L L)) (B (o235 p P) (B (o363 p P) L L) L))) (B (o59 p P) (B (o91 p P) (B (o155 p P) (B (o283 p P) L L) (B (o411 p P) L L)) (B (o219 p P) (B (o347 p P) L L) L)) (B (o123 p P) (B (o187 p P) (B (o315 p P) L L) L) (B (o251 p P) (B (o379 p P) L L) L)))))) (B (b5 p P) (B (b9 p P) (B (o17 p P) (B (o33 p P) (B (o65 p P) (B (o129 p P) (B (o257 p P) L L) (B (o385 p P) L L)) (B (o193 p P) (B (o321 p P) L L) L)) (B (o97 p P) (B (o161 p P) (B (o289 p P) L L) (B (o417 p P) L L)) (B (o225 p P) (B (o353 p P) L L) L))) (B (o49 p P) (B (o81 p P) (B (o145 p P) (B (o273 p P) L L) (B (o401 p P) L L)) (B (o209 p P) (B (o337 p P) L L) L)) (B (o113 p P) (B (o177 p P) (B (o305 p P) L L) L) (B (o241 p P) (B (o369 p P) L L) L)))) (B (o25 p P) (B (o41 p P) (B (o73 p P) (B (o137 p P) (B (o265 p P) L L) (B (o393 p P) L L)) (B (o201 p P) (B (o329 p P) L L) L)) (B (o105 p P) (B (o169 p P) (B (o297 p P) L L) (B (o425 p P) L L)) (B (o233 p P) (B (o361 p P) L L) L))) (B (o57 p P) (B (o89 p P) (B (o153 p P) (B (o281 p P) L L) (B (o409 p P) L L)) (B (o217 p P) (B (o345 p P) L L) L)) (B (o121 p P) (B (o185 p P) (B (o313 p P) L L) L) (B (o249 p P) (B (o377 p P) L L) L))))) (B (a13 p P) (B (o21 p P) (B (o37 p P) (B (o69 p P) (B (o133 p P) (B (o261 p P) L L) (B (o389 p P) L L)) (B (o197 p P) (B (o325 p P) L L) L)) (B (o101 p P) (B (o165 p P) (B (o293 p P) L L) (B (o421 p P) L L)) (B (o229 p P) (B (o357 p P) L L) L))) (B (o53 p P) (B (o85 p P) (B (o149 p P) (B (o277 p P) L L) (B (o405 p P) L L)) (B (o213 p P) (B (o341 p P) L L) L)) (B (o117 p P) (B (o181 p P) (B (o309 p P) L L) L) (B (o245 p P) (B (o373 p P) L L) L)))) (B (o29 p P) (B (o45 p P) (B (o77 p P) (B (o141 p P) (B (o269 p P) L L) (B (o397 p P) L L)) (B (o205 p P) (B (o333 p P) L L) L)) (B (o109 p P) (B (o173 p P) (B (o301 p P) L L) L) (B (o237 p P) (B (o365 p P) L L) L))) (B (o61 p P) (B (o93 p P) (B (o157 p P) (B (o285 p P) L L) (B (o413 p P) L L)) (B (o221 p P) (B (o349 p P) L L) L)) (B (o125 p P) (B (o189 p P) (B (o317 p P) L L) L) (B (o253 p P) (B (o381 p P) L L) L))))))) (B (b2 p P) (B (b4 p P) (B (b8 p P) (B (o16 p P) (B (o32 p P) (B (o64 p P) (B (o128 p P) (B (o256 p P) L L) (B (o384 p P) L L)) (B (o192 p P) (B (o320 p P) L L) L)) (B (o96 p P) (B (o160 p P) (B (o288 p P) L L) (B (o416 p P) L L)) (B (o224 p P) (B (o352 p P) L L) L))) (B (o48 p P) (B (o80 p P) (B (o144 p P) (B (o272 p P) L L) (B (o400 p P) L L)) (B (o208 p P) (B (o336 p P) L L) L)) (B (o112 p P) (B (o176 p P) (B (o304 p P) L L) L) (B (o240 p P) (B (o368 p P) L L) L)))) (B (o24 p P) (B (o40 p P) (B (o72 p P) (B (o136 p P) (B (o264 p P) L L) (B (o392 p P) L L)) (B (o200 p P) (B (o328 p P) L L) L)) (B (o104 p P) (B (o168 p P) (B (o296 p P) L L) (B (o424 p P) L L)) (B (o232 p P) (B (o360 p P) L L) L))) (B (o56 p P) (B (o88 p P) (B (o152 p P) (B (o280 p P) L L) (B (o408 p P) L L)) (B (o216 p P) (B (o344 p P) L L) L)) (B (o120 p P) (B (o184 p P) (B (o312 p P) L L) L) (B (o248 p P) (B (o376 p P) L L) L))))) (B (o12 p P) (B (o20 p P) (B (o36 p P) (B (o68 p P) (B (o132 p P) (B (o260 p P) L L) (B (o388 p P) L L)) (B (o196 p P) (B (o324 p P) L L) L)) (B (o100 p P) (B (o164 p P) (B (o292 p P) L L) (B (o420 p P) L L)) (B (o228 p P) (B (o356 p P) L L) L))) (B (o52 p P) (B (o84 p P) (B (o148 p P) (B (o276 p P) L L) (B (o404 p P) L L)) (B (o212 p P) (B (o340 p P) L L) L)) (B (o116 p P) (B (o180 p P) (B (o308 p P) L L) L) (B (o244 p P) (B (o372 p P) L L) L)))) (B (o28 p P) (B (o44 p P) (B (o76 p P) (B (o140 p P) (B (o268 p P) L L) (B (o396 p P) L L)) (B (o204 p P) (B (o332 p P) L L) L)) (B (o108 p P) (B (o172 p P) (B (o300 p P) L L) (B (o428 p P) L L)) (B (o236 p P) (B (o364 p P) L L) L))) (B (o60 p P) (B (o92 p P) (B (o156 p P) (B (o284 p P) L L) (B (o412 p P) L L)) (B (o220 p P) (B (o348 p P) L L) L)) (B (o124 p P) (B (o188 p P) (B (o316 p P) L L) L) (B (o252 p P) (B (o380 p P) L L) L)))))) (B (b6 p P) (B (b10 p P) (B (o18 p P) (B (o34 p P) (B (o66 p P) (B (o130 p P) (B (o258 p P) L L) (B (o386 p P) L L)) (B (o194 p P) (B (o322 p P) L L) L)) (B (o98 p P) (B (o162 p P) (B (o290 p P) L L) (B (o418 p P) L L)) (B (o226 p P) (B (o354 p P) L L) L))) (B (o50 p P) (B (o82 p P) (B (o146 p P) (B (o274 p P) L L) (B (o402 p P) L L)) (B (o210 p P) (B (o338 p P) L L) L)) (B (o114 p P) (B (o178 p P) (B (o306 p P) L L) L) (B (o242 p P) (B (o370 p P) L L) L)))) (B (o26 p P) (B (o42 p P) (B (o74 p P) (B (o138 p P) (B (o266 p P) L L) (B (o394 p P) L L)) (B (o202 p P) (B (o330 p P) L L) L)) (B (o106 p P) (B (o170 p P) (B (o298 p P) L L) (B (o426 p P) L L)) (B (o234 p P) (B (o362 p P) L L) L))) (B (o58 p P) (B (o90 p P) (B (o154 p P) (B (o282 p P) L L) (B (o410 p P) L L)) (B (o218 p P) (B (o346 p P) L L) L)) (B (o122 p P) (B (o186 p P) (B (o314 p P) L L) L) (B (o250 p P) (B (o378 p P) L L) L))))) (B (a14 p P) (B (o22 p P) (B (o38 p P) (B (o70 p P) (B (o134 p P) (B (o262 p P) L L) (B (o390 p P) L L)) (B (o198 p P) (B (o326 p P) L L) L)) (B (o102 p P) (B (o166 p P) (B (o294 p P) L L) (B (o422 p P) L L)) (B (o230 p P) (B (o358 p P) L L) L))) (B (o54 p P) (B (o86 p P) (B (o150 p P) (B (o278 p P) L L) (B (o406 p P) L L)) (B (o214 p P) (B (o342 p P) L L) L)) (B (o118 p P) (B (o182 p P) (B (o310 p P) L L) L) (B (o246 p P) (B (o374 p P) L L) L)))) (B (o30 p P) (B (o46 p P) (B (o78 p P) (B (o142 p P) (B (o270 p P) L L) (B (o398 p P) L L)) (B (o206 p P) (B (o334 p P) L L) L)) (B (o110 p P) (B (o174 p P) (B (o302 p P) L L) L) (B (o238 p P) (B (o366 p P) L L) L))) (B (o62 p P) (B (o94 p P) (B (o158 p P) (B (o286 p P) L L) (B (o414 p P) L L)) (B (o222 p P) (B (o350 p P) L L) L)) (B (o126 p P) (B (o190 p P) (B (o318 p P) L L) L) (B (o254 p P) (B (o382 p P) L L) L))))))))
noncomputable def ks : List Nat := [nat_lit 2,nat_lit 3,nat_lit 15,nat_lit 17,nat_lit 18,nat_lit 20,nat_lit 21,nat_lit 22,nat_lit 29,nat_lit 30,nat_lit 31,nat_lit 32,nat_lit 35,nat_lit 42,nat_lit 43,nat_lit 44,nat_lit 47,nat_lit 54,nat_lit 55,nat_lit 56,nat_lit 59,nat_lit 66,nat_lit 67,nat_lit 68,nat_lit 71,nat_lit 78,nat_lit 79,nat_lit 80,nat_lit 83,nat_lit 90,nat_lit 91,nat_lit 92,nat_lit 95,nat_lit 102,nat_lit 103,nat_lit 104,nat_lit 107,nat_lit 114,nat_lit 115,nat_lit 116,nat_lit 119,nat_lit 126,nat_lit 127,nat_lit 128,nat_lit 131,nat_lit 138,nat_lit 139,nat_lit 140,nat_lit 143,nat_lit 150,nat_lit 151,nat_lit 152,nat_lit 155,nat_lit 162,nat_lit 163,nat_lit 164,nat_lit 167,nat_lit 174,nat_lit 175,nat_lit 176,nat_lit 179,nat_lit 186,nat_lit 187,nat_lit 188,nat_lit 191,nat_lit 198,nat_lit 199,nat_lit 200,nat_lit 203,nat_lit 205,nat_lit 206,nat_lit 208,nat_lit 209,nat_lit 210,nat_lit 212,nat_lit 213,nat_lit 215,nat_lit 216,nat_lit 217,nat_lit 219,nat_lit 220,nat_lit 222,nat_lit 223,nat_lit 224,nat_lit 226,nat_lit 227,nat_lit 229,nat_lit 230,nat_lit 231,nat_lit 233,nat_lit 234,nat_lit 236,nat_lit 237,nat_lit 238,nat_lit 240,nat_lit 241,nat_lit 243,nat_lit 244,nat_lit 245,nat_lit 248,nat_lit 249,nat_lit 250,nat_lit 252,nat_lit 253,nat_lit 255,nat_lit 256,nat_lit 257,nat_lit 259,nat_lit 260,nat_lit 262,nat_lit 263,nat_lit 264,nat_lit 266,nat_lit 267,nat_lit 269,nat_lit 270,nat_lit 271,nat_lit 273,nat_lit 274,nat_lit 276,nat_lit 277,nat_lit 285,nat_lit 286,nat_lit 288,nat_lit 289,nat_lit 291,nat_lit 292,nat_lit 293,nat_lit 295,nat_lit 296,nat_lit 298,nat_lit 299,nat_lit 300,nat_lit 302,nat_lit 303,nat_lit 305,nat_lit 306,nat_lit 307,nat_lit 308,nat_lit 309,nat_lit 310,nat_lit 311,nat_lit 314,nat_lit 316,nat_lit 317,nat_lit 319,nat_lit 320,nat_lit 321,nat_lit 323,nat_lit 324,nat_lit 326,nat_lit 327,nat_lit 328,nat_lit 330,nat_lit 331,nat_lit 333,nat_lit 334,nat_lit 335,nat_lit 337,nat_lit 338,nat_lit 340,nat_lit 341,nat_lit 342,nat_lit 344,nat_lit 345,nat_lit 347,nat_lit 348,nat_lit 349,nat_lit 352,nat_lit 353,nat_lit 354,nat_lit 356,nat_lit 357,nat_lit 359,nat_lit 360,nat_lit 361,nat_lit 363,nat_lit 364,nat_lit 366,nat_lit 367,nat_lit 368,nat_lit 370,nat_lit 371,nat_lit 373,nat_lit 374,nat_lit 375,nat_lit 377,nat_lit 378,nat_lit 380,nat_lit 381,nat_lit 382,nat_lit 384,nat_lit 385,nat_lit 387,nat_lit 388,nat_lit 389,nat_lit 391,nat_lit 392,nat_lit 394,nat_lit 395,nat_lit 396,nat_lit 398,nat_lit 399,nat_lit 401,nat_lit 402,nat_lit 403,nat_lit 405,nat_lit 406,nat_lit 408,nat_lit 409,nat_lit 410,nat_lit 412,nat_lit 413,nat_lit 415,nat_lit 416,nat_lit 417,nat_lit 419,nat_lit 420,nat_lit 422,nat_lit 423,nat_lit 424,nat_lit 427,nat_lit 428]
noncomputable def Kp (p : Program) (P : Params) : Frag := ks.map fun a => (a, (Lf p P).getD a default)
noncomputable def K (P : Params) : Frag := (nat_lit 2,b2 pw P)::(nat_lit 3,o3 pw P)::(nat_lit 15,o15 pw P)::(nat_lit 17,o17 pw P)::(nat_lit 18,o18 pw P)::(nat_lit 20,o20 pw P)::(nat_lit 21,o21 pw P)::(nat_lit 22,o22 pw P)::(nat_lit 29,o29 pw P)::(nat_lit 30,o30 pw P)::(nat_lit 31,o31 pw P)::(nat_lit 32,o32 pw P)::(nat_lit 35,o35 pw P)::(nat_lit 42,o42 pw P)::(nat_lit 43,o43 pw P)::(nat_lit 44,o44 pw P)::(nat_lit 47,o47 pw P)::(nat_lit 54,o54 pw P)::(nat_lit 55,o55 pw P)::(nat_lit 56,o56 pw P)::(nat_lit 59,o59 pw P)::(nat_lit 66,o66 pw P)::(nat_lit 67,o67 pw P)::(nat_lit 68,o68 pw P)::(nat_lit 71,o71 pw P)::(nat_lit 78,o78 pw P)::(nat_lit 79,o79 pw P)::(nat_lit 80,o80 pw P)::(nat_lit 83,o83 pw P)::(nat_lit 90,o90 pw P)::(nat_lit 91,o91 pw P)::(nat_lit 92,o92 pw P)::(nat_lit 95,o95 pw P)::(nat_lit 102,o102 pw P)::(nat_lit 103,o103 pw P)::(nat_lit 104,o104 pw P)::(nat_lit 107,o107 pw P)::(nat_lit 114,o114 pw P)::(nat_lit 115,o115 pw P)::(nat_lit 116,o116 pw P)::(nat_lit 119,o119 pw P)::(nat_lit 126,o126 pw P)::(nat_lit 127,o127 pw P)::(nat_lit 128,o128 pw P)::(nat_lit 131,o131 pw P)::(nat_lit 138,o138 pw P)::(nat_lit 139,o139 pw P)::(nat_lit 140,o140 pw P)::(nat_lit 143,o143 pw P)::(nat_lit 150,o150 pw P)::(nat_lit 151,o151 pw P)::(nat_lit 152,o152 pw P)::(nat_lit 155,o155 pw P)::(nat_lit 162,o162 pw P)::(nat_lit 163,o163 pw P)::(nat_lit 164,o164 pw P)::(nat_lit 167,o167 pw P)::(nat_lit 174,o174 pw P)::(nat_lit 175,o175 pw P)::(nat_lit 176,o176 pw P)::(nat_lit 179,o179 pw P)::(nat_lit 186,o186 pw P)::(nat_lit 187,o187 pw P)::(nat_lit 188,o188 pw P)::(nat_lit 191,o191 pw P)::(nat_lit 198,o198 pw P)::(nat_lit 199,o199 pw P)::(nat_lit 200,o200 pw P)::(nat_lit 203,o203 pw P)::(nat_lit 205,o205 pw P)::(nat_lit 206,o206 pw P)::(nat_lit 208,o208 pw P)::(nat_lit 209,o209 pw P)::(nat_lit 210,o210 pw P)::(nat_lit 212,o212 pw P)::(nat_lit 213,o213 pw P)::(nat_lit 215,o215 pw P)::(nat_lit 216,o216 pw P)::(nat_lit 217,o217 pw P)::(nat_lit 219,o219 pw P)::(nat_lit 220,o220 pw P)::(nat_lit 222,o222 pw P)::(nat_lit 223,o223 pw P)::(nat_lit 224,o224 pw P)::(nat_lit 226,o226 pw P)::(nat_lit 227,o227 pw P)::(nat_lit 229,o229 pw P)::(nat_lit 230,o230 pw P)::(nat_lit 231,o231 pw P)::(nat_lit 233,o233 pw P)::(nat_lit 234,o234 pw P)::(nat_lit 236,o236 pw P)::(nat_lit 237,o237 pw P)::(nat_lit 238,o238 pw P)::(nat_lit 240,o240 pw P)::(nat_lit 241,o241 pw P)::(nat_lit 243,o243 pw P)::(nat_lit 244,o244 pw P)::(nat_lit 245,o245 pw P)::(nat_lit 248,o248 pw P)::(nat_lit 249,o249 pw P)::(nat_lit 250,o250 pw P)::(nat_lit 252,o252 pw P)::(nat_lit 253,o253 pw P)::(nat_lit 255,o255 pw P)::(nat_lit 256,o256 pw P)::(nat_lit 257,o257 pw P)::(nat_lit 259,o259 pw P)::(nat_lit 260,o260 pw P)::(nat_lit 262,o262 pw P)::(nat_lit 263,o263 pw P)::(nat_lit 264,o264 pw P)::(nat_lit 266,o266 pw P)::(nat_lit 267,o267 pw P)::(nat_lit 269,o269 pw P)::(nat_lit 270,o270 pw P)::(nat_lit 271,o271 pw P)::(nat_lit 273,o273 pw P)::(nat_lit 274,o274 pw P)::(nat_lit 276,o276 pw P)::(nat_lit 277,o277 pw P)::(nat_lit 285,o285 pw P)::(nat_lit 286,o286 pw P)::(nat_lit 288,o288 pw P)::(nat_lit 289,o289 pw P)::(nat_lit 291,o291 pw P)::(nat_lit 292,o292 pw P)::(nat_lit 293,o293 pw P)::(nat_lit 295,o295 pw P)::(nat_lit 296,o296 pw P)::(nat_lit 298,o298 pw P)::(nat_lit 299,o299 pw P)::(nat_lit 300,o300 pw P)::(nat_lit 302,o302 pw P)::(nat_lit 303,o303 pw P)::(nat_lit 305,o305 pw P)::(nat_lit 306,o306 pw P)::(nat_lit 307,o307 pw P)::(nat_lit 308,o308 pw P)::(nat_lit 309,o309 pw P)::(nat_lit 310,o310 pw P)::(nat_lit 311,o311 pw P)::(nat_lit 314,o314 pw P)::(nat_lit 316,o316 pw P)::(nat_lit 317,o317 pw P)::(nat_lit 319,o319 pw P)::(nat_lit 320,o320 pw P)::(nat_lit 321,o321 pw P)::(nat_lit 323,o323 pw P)::(nat_lit 324,o324 pw P)::(nat_lit 326,o326 pw P)::(nat_lit 327,o327 pw P)::(nat_lit 328,o328 pw P)::(nat_lit 330,o330 pw P)::(nat_lit 331,o331 pw P)::(nat_lit 333,o333 pw P)::(nat_lit 334,o334 pw P)::(nat_lit 335,o335 pw P)::(nat_lit 337,o337 pw P)::(nat_lit 338,o338 pw P)::(nat_lit 340,o340 pw P)::(nat_lit 341,o341 pw P)::(nat_lit 342,o342 pw P)::(nat_lit 344,o344 pw P)::(nat_lit 345,o345 pw P)::(nat_lit 347,o347 pw P)::(nat_lit 348,o348 pw P)::(nat_lit 349,o349 pw P)::(nat_lit 352,o352 pw P)::(nat_lit 353,o353 pw P)::(nat_lit 354,o354 pw P)::(nat_lit 356,o356 pw P)::(nat_lit 357,o357 pw P)::(nat_lit 359,o359 pw P)::(nat_lit 360,o360 pw P)::(nat_lit 361,o361 pw P)::(nat_lit 363,o363 pw P)::(nat_lit 364,o364 pw P)::(nat_lit 366,o366 pw P)::(nat_lit 367,o367 pw P)::(nat_lit 368,o368 pw P)::(nat_lit 370,o370 pw P)::(nat_lit 371,o371 pw P)::(nat_lit 373,o373 pw P)::(nat_lit 374,o374 pw P)::(nat_lit 375,o375 pw P)::(nat_lit 377,o377 pw P)::(nat_lit 378,o378 pw P)::(nat_lit 380,o380 pw P)::(nat_lit 381,o381 pw P)::(nat_lit 382,o382 pw P)::(nat_lit 384,o384 pw P)::(nat_lit 385,o385 pw P)::(nat_lit 387,o387 pw P)::(nat_lit 388,o388 pw P)::(nat_lit 389,o389 pw P)::(nat_lit 391,o391 pw P)::(nat_lit 392,o392 pw P)::(nat_lit 394,o394 pw P)::(nat_lit 395,o395 pw P)::(nat_lit 396,o396 pw P)::(nat_lit 398,o398 pw P)::(nat_lit 399,o399 pw P)::(nat_lit 401,o401 pw P)::(nat_lit 402,o402 pw P)::(nat_lit 403,o403 pw P)::(nat_lit 405,o405 pw P)::(nat_lit 406,o406 pw P)::(nat_lit 408,o408 pw P)::(nat_lit 409,o409 pw P)::(nat_lit 410,o410 pw P)::(nat_lit 412,o412 pw P)::(nat_lit 413,o413 pw P)::(nat_lit 415,o415 pw P)::(nat_lit 416,o416 pw P)::(nat_lit 417,o417 pw P)::(nat_lit 419,o419 pw P)::(nat_lit 420,o420 pw P)::(nat_lit 422,o422 pw P)::(nat_lit 423,o423 pw P)::(nat_lit 424,o424 pw P)::(nat_lit 427,o427 pw P)::(nat_lit 428,o428 pw P)::[]
noncomputable def keep : List Nat := [0, 2, 3, 4, 5, 6, 7, 8, 9, 10, 11, 12, 13, 14, 15, 16, 18, 19, 20, 21, 22, 24, 25, 26, 28, 29, 30, 31, 32, 33, 34, 35, 37, 38, 39, 40, 41, 42, 43, 44, 45, 46, 47, 48, 49, 50, 51, 52, 53]
noncomputable def loose : List Str := []
noncomputable def env (p : Program) : Env := { scope := p.main.scope, locals := mainNs, globals := mainNs, cells := [], code := (R 13), frame := some 14 }
noncomputable def cE (p : Program) : Code := .body (behindTheImports p) (env p)
noncomputable def qP : Pos := ⟨0,0,0,0⟩
noncomputable def pP : Pos := ⟨0,0,0,0⟩
noncomputable def bP : Pos := ⟨0,0,0,0⟩
noncomputable def fP : Pos := ⟨282,0,305,104⟩
noncomputable def an : Option Value := (some (R 6))
noncomputable abbrev lawAt : Nat := 53
noncomputable abbrev m0 : Nat := 11
noncomputable abbrev nF : Nat := 429
noncomputable abbrev sPre : Nat := 12
noncomputable abbrev sBlk : Nat := 1
noncomputable abbrev sRun : Nat := 4491
noncomputable abbrev sFin : Nat := 2
noncomputable abbrev nAll : Nat := 9706
noncomputable abbrev nA : Nat := 15
noncomputable abbrev tkA : Nat := 187
noncomputable abbrev tkB : Nat := 187
noncomputable abbrev tkM : Nat := 814
noncomputable abbrev tkF : Nat := 814
end
end HD
namespace HD
open PySem PySem.W PyProof.Rows L2
noncomputable section
abbrev S0 (w : World) (os : OsState) : Shared := ⟨boot_heap w.params, ⟨[]⟩, boot_drawn, boot_toks, os⟩
abbrev Sa (p : Program) (w : World) (os : OsState) : Shared := ⟨⟨⟨La p w.params⟩, {}⟩, ⟨[]⟩, {}, tkA, os⟩
abbrev Sb (p : Program) (w : World) (os : OsState) : SharedT := ⟨Ta p w.params, nA, {}, ⟨[]⟩, {}, tkB, os⟩
abbrev Sm (p : Program) (w : World) (os : OsState) : SharedT := ⟨Tf p w.params, nF, {}, ⟨[]⟩, {}, tkM, os⟩
abbrev H1 (p : Program) (P : Params) : Heap := ⟨⟨Lf p P⟩, {}⟩
abbrev Sf (p : Program) (w : World) (os : OsState) : Shared := ⟨H1 p w.params, ⟨[]⟩, {}, tkF, os⟩
abbrev q (p : Program) : Program := view p keep
abbrev Xt (p : Program) (R : WRecords) : Shared → Bool := fun s => xlAt (q p) [] s && recOk R s
theorem l_pre (w : World) (os : OsState) : topGo treeTable pq w m0 an sPre (S0 w os) (topStub pq) = some (Sa pq w os, ⟨denote treeTable (cE pq), cE pq, pP, [topFrame qP]⟩) := by
  rewrite [Fast.te15667345088766844465, Fast.te14364793385576792824, Fast.te11892475500146522536]; kernel_rfl
theorem l_blk (w : World) (os : OsState) : segRun treeTable pq w m0 an 1 sBlk (Sa pq w os) (blockOf (behindTheImports pq) (env pq) (cE pq) pP [topFrame qP]) = some (.next, (Sb pq w os).abs, cE pq, bP) := by
  rewrite [Fast.te14374325043358763698, Fast.te14364793385576792824]; kernel_rfl
theorem l_run (w : World) (os : OsState) : segRunT treeTable pq w m0 an 1 sRun (Sb pq w os) (piecesOf (behindTheImports pq) (env pq) (cE pq) bP [topFrame qP]) = some (.next, Sm pq w os, cE pq, fP) := by
  rewrite [Fast.te10110043849684766642, Fast.te14364793385576792824]; kernel_rfl
theorem l_fin (w : World) (os : OsState) : topRun treeTable pq w m0 an sFin (Sm pq w os).abs ⟨doneF .next, cE pq, fP, [topFrame qP]⟩ = some (Sf pq w os) := by
  rewrite [Fast.te14082659384304107361, Fast.te14364793385576792824]; kernel_rfl
end
end HD
namespace HD
open PySem PySem.W PyProof.Rows L2
noncomputable section
theorem l_size (w : World) : ((boot_heap w.params).isNs mainGlobals && (⟨[]⟩ : Array GenState).size == 0, (boot_heap w.params).objs.size, (boot_heap w.params).nsMap mainGlobals "__annotations__") = (true, m0, an) := by
  rewrite [Fast.te8920871248978507458]; kernel_rfl
theorem l_open : ∀ w : World, (fencedOpening treeTable pq w nAll).map (fun s => (s.heap, s.gens, s.drawn, s.toks)) = some (boot_heap w.params, ⟨[]⟩, boot_drawn, boot_toks) :=
  boot_open (by kernel_rfl) (by kernel_rfl) (fun s => by kernel_rfl)
theorem l_top (w : World) (os : OsState) : topRun treeTable pq w m0 an (sPre + (sBlk + (sRun + sFin))) (S0 w os) (topStub pq) = some (Sf pq w os) := by
  refine go_top (l_pre w os) (piece_block (l_blk w os) ?_)
  have h := piece_app (rest := []) (segRun_of (l_run w os)) (piece_nil (env := env pq) (l_fin w os))
  rw [List.append_nil] at h
  exact h
section
variable (w : World) (os : OsState)
theorem k_a : (staticsOk (importedModules pq.main.body) (boot_heap w.params) (H1 pq w.params) && namesBound pq (H1 pq w.params) && gensDone (Sf pq w os) && laidKept (boot_heap w.params) (H1 pq w.params)) = true := by
  rewrite [Fast.te5923862056798008813]; kernel_rfl
theorem k_b : seen ((recsOf (q pq)).map (·.name)) (ownsOf (q pq)) [] { Sf pq w os with gens := #[] } = expectedOf (q pq) := by
  rewrite [Fast.te5160383126252970620, Fast.te3399658132070893891, Fast.te5991557255702980513]; kernel_rfl
theorem k_c : (Sf pq w os).heap.bltView = bltViewBooted := by kernel_rfl
theorem k_d : ((Sf pq w os).heap.keysOk (looseW (q pq) loose) ((recsOf (q pq)).map (·.name)) ((litsOf (q pq)).map (·.1)) ((clssOf (q pq) (looseW (q pq) loose)).map (·.name)) && (Sf pq w os).heap.accountedOkI (importedModules pq.main.body) && (Sf pq w os).heap.isNs mainGlobals && (Sf pq w os).heap.isNs builtinsNs && tablesOk (q pq) (Sf pq w os).heap && Xt pq [] (Sf pq w os) && (if true then (Sf pq w os).gens.size == 0 else !leftWithCleanup (Sf pq w os).gens)) = true := by
  rewrite [Fast.te10880121769531294198, Fast.te821141287760084731, Fast.te3399658132070893891, Fast.te7409074990110511671, Fast.te13664370479719496447, Fast.te14722251495701143533, Fast.te5923862056798008813, Fast.te10994771534591457954]; kernel_rfl
theorem k_e : tabsOk (q pq) (Sf pq w os) = true := by rewrite [Fast.te479339242167458305]; kernel_rfl
theorem k_f : pinSeenD (q pq) (drecsOf (q pq)) (Sf pq w os) = pinGoodD (drecsOf (q pq)) := by rewrite [Fast.te16090120013241838585, Fast.te3247288618530077131]; kernel_rfl
theorem k_g : plainSeenE (q pq) (looseW (q pq) loose) (Sf pq w os) = plainGoodE (q pq) (looseW (q pq) loose) := by rewrite [Fast.te2386780881361962483, Fast.te821141287760084731]; kernel_rfl
theorem k_h : plainSeenD (q pq) loose (Sf pq w os) = plainGoodD (q pq) loose := by rewrite [Fast.te11698064438423848299]; kernel_rfl
theorem k_i : wideSeen (q pq) (Sf pq w os) = wideGood (q pq) := by rewrite [Fast.te7317090234206586261]; kernel_rfl
theorem k_j : clsSeenW (q pq) loose (Sf pq w os) = clsGoodW (q pq) loose := by rewrite [Fast.te7369524293546568484]; kernel_rfl
theorem k_k : ks.map (Sf pq w os).heap.get? = (Kp pq w.params).map fun p => some p.2 := by kernel_rfl
end
theorem left (p : Program) (e : p = pq) : LeftO p (q p) loose (Xt p []) (fun s => ks.map s.heap.get?) (fun w => (Kp p w.params).map fun p => some p.2) nAll := by
  subst e
  exact LeftO.of_pieces l_open l_size l_top (by decide) fun w => funext fun os => looks_pair (k_a w os) (looks_pair (looks_pair (k_b w os) (looks_pair (k_c w os) (looks_pair (k_d w os) (looks_pair (k_e w os) (looks_pair (k_f w os) (looks_pair (k_g w os) (looks_pair (k_h w os) (looks_pair (k_i w os) (k_j w os))))))))) (k_k w os))
theorem kk : K = Kp pw := by funext P; kernel_rfl
theorem ke : ∀ P, ks = (K P).map (·.1) := fun _ => by kernel_rfl
end
end HD
namespace HD
open PySem PySem.W PyProof.Rows L2
noncomputable section
def d : DefRec := match tp pw lawAt with
  | .FunctionDef n a b _ _ _ sc _ _ ps => ⟨n, a, b, sc, ps⟩
  | _ => ⟨Str.empty, defArgs (tp pw 0), [], defScope (tp pw 0), default⟩
abbrev hk : Hook := kHook K ks ke
theorem leftw : LeftO pw (q pw) loose (Xt pw []) (Hook.obs hk) (Hook.val hk) nAll := by
  have h := left pw pwq
  rw [← kk] at h
  exact h
end
end HD

open PySem PySem.W PyProof.Rows
set_option maxRecDepth 100000 in
set_option maxHeartbeats 0 in
theorem PySem.Challenge.cw_quotefind_k09_no_ways_holds : PySem.Challenge.rw_quotefind_k09_no_ways.Holds := by
  w_on; o_law
  refine holds_open (q := HD.q HD.pw) (loose := HD.loose) (Xt := HD.Xt HD.pw []) (XP := XL (HD.q HD.pw) []) (Yf := Hook.obs (kHook HD.K HD.ks HD.ke)) (Ya := Hook.val (kHook HD.K HD.ks HD.ke)) (YP := Hook.says (kHook HD.K HD.ks HD.ke)) (d := HD.d) (kwd := []) (N := HD.nAll) HD.leftw (Hook.of (kHook HD.K HD.ks HD.ke)) (Hook.keeps (kHook HD.K HD.ks HD.ke)) (fun s e => xl_of s (Bool.and_eq_true_iff.mp e).1) XL.keeps (by kernel_rfl) (by kernel_rfl) (by kernel_rfl) (fun s e => recFacts_of (Bool.and_eq_true_iff.mp e).2) (by rfl) (by assumption) (by decide +kernel) ⟨rfl, rfl, rfl, rfl, rfl, by decide +kernel⟩ ?hw ?hc
  (case hw => w_witness2)
  k_fill
  refine K09.walk (l := PySem.Challenge.rw_quotefind_k09_no_ways) rfl rfl (fun w h Y => PySem.W.kIn_of Y) ?F
  case F =>
    intro w mg fa h KX G hmg
    refine' K09.all_mk KX G hmg ?g_Terms ?a_is_small_letter ?l_is_small_letter ?c_is_small_letter ?k_is_small_letter ?a_is_word ?l_is_word ?c_is_word ?k_is_word ?a_is_between ?l_is_between ?c_is_between ?k_is_between ?a_check_number ?l_check_number ?c_check_number ?k_check_number ?a_check_near_form ?l_check_near_form ?c_check_near_form ?k_check_near_form ?a_near_prices ?l_near_prices ?c_near_prices ?k_near_prices ?a_Terms___init__ ?i_Terms___init__ ?l_Terms___init__ ?c_Terms___init__ ?k_Terms___init__ ?dv_Terms___init__ ?a_Terms_pair_worth ?i_Terms_pair_worth ?l_Terms_pair_worth ?c_Terms_pair_worth ?k_Terms_pair_worth ?a_is_place ?l_is_place ?c_is_place ?k_is_place ?a_standing_worth ?l_standing_worth ?c_standing_worth ?k_standing_worth ?a_price_between ?l_price_between ?c_price_between ?k_price_between ?a_way_row ?l_way_row ?c_way_row ?k_way_row ?a_way_worth ?l_way_worth ?c_way_worth ?k_way_worth ?a__law_at ?l__law_at ?c__law_at ?k__law_at ?a__law_whole ?l__law_whole ?c__law_whole ?k__law_whole ?a__law_bank ?l__law_bank ?c__law_bank ?k__law_bank ?a__law_book ?l__law_book ?c__law_book ?k__law_book ?a__law_quote ?l__law_quote ?c__law_quote ?k__law_quote ?a__law_numbers ?l__law_numbers ?c__law_numbers ?k__law_numbers ?a__law_near ?l__law_near ?c__law_near ?k__law_near ?a__law_case ?l__law_case ?c__law_case ?k__law_case ?a__law_pair ?l__law_pair ?c__law_pair ?k__law_pair ?a__law_worth ?l__law_worth ?c__law_worth ?k__law_worth ?a__law_drawn ?l__law_drawn ?c__law_drawn ?k__law_drawn ?a__law_row ?l__law_row ?c__law_row ?k__law_row ?a__law_kind ?l__law_kind ?c__law_kind ?k__law_kind ?a__law_terms ?l__law_terms ?c__law_terms ?k__law_terms ?a__law_is_way ?l__law_is_way ?c__law_is_way ?k__law_is_way ?a__law_spoiled ?l__law_spoiled ?c__law_spoiled ?k__law_spoiled ?a_law ?l_law ?c_law ?k_law ?gp_Terms ?gh_Terms ?go_Terms ?gs_Terms ?gm_Terms ?gk_Terms ?na_Terms_same ?na_Terms_out ?na_Terms_into ?na_Terms_least ?na_Terms_part ?na_Terms_near ?na_Terms_prices ?z_len ?z_range ?z_isinstance ?z_int ?z_bool ?z_str ?z_list ?z_tuple ?z_dict ?z_all ?z_any ?z_min ?z_max ?z_enumerate ?z_ValueError ?y_WORD_MOST ?y_WORTH_MOST ?y_NEAR_MOST ?y_PART_MOST ?x_QuoteError ?xe_QuoteError ?xc_QuoteError ?xo_QuoteError ?xb_QuoteError ?xg_QuoteError ?xn_QuoteError ?xt_QuoteError ?xk_QuoteError ?x_BadWord ?xe_BadWord ?xc_BadWord ?xo_BadWord ?xb_BadWord ?xg_BadWord ?xn_BadWord ?xt_BadWord ?xk_BadWord ?x_BadBook ?xe_BadBook ?xc_BadBook ?xo_BadBook ?xb_BadBook ?xg_BadBook ?xn_BadBook ?xt_BadBook ?xk_BadBook ?x_BadTerms ?xe_BadTerms ?xc_BadTerms ?xo_BadTerms ?xb_BadTerms ?xg_BadTerms ?xn_BadTerms ?xt_BadTerms ?xk_BadTerms ?x_BadNear ?xe_BadNear ?xc_BadNear ?xo_BadNear ?xb_BadNear ?xg_BadNear ?xn_BadNear ?xt_BadNear ?xk_BadNear ?x_BadWay ?xe_BadWay ?xc_BadWay ?xo_BadWay ?xb_BadWay ?xg_BadWay ?xn_BadWay ?xt_BadWay ?xk_BadWay ?x_BadName ?xe_BadName ?xc_BadName ?xo_BadName ?xb_BadName ?xg_BadName ?xn_BadName ?xt_BadName ?xk_BadName ?x_BadYear ?xe_BadYear ?xc_BadYear ?xo_BadYear ?xb_BadYear ?xg_BadYear ?xn_BadYear ?xt_BadYear ?xk_BadYear ?x_NameTaken ?xe_NameTaken ?xc_NameTaken ?xo_NameTaken ?xb_NameTaken ?xg_NameTaken ?xn_NameTaken ?xt_NameTaken ?xk_NameTaken ?x_Full ?xe_Full ?xc_Full ?xo_Full ?xb_Full ?xg_Full ?xn_Full ?xt_Full ?xk_Full ?x_TooMany ?xe_TooMany ?xc_TooMany ?xo_TooMany ?xb_TooMany ?xg_TooMany ?xn_TooMany ?xt_TooMany ?xk_TooMany ?x_NoBook ?xe_NoBook ?xc_NoBook ?xo_NoBook ?xb_NoBook ?xg_NoBook ?xn_NoBook ?xt_NoBook ?xk_NoBook ?x_NoFinding ?xe_NoFinding ?xc_NoFinding ?xo_NoFinding ?xb_NoFinding ?xg_NoFinding ?xn_NoFinding ?xt_NoFinding ?xk_NoFinding ?x_HasLeft ?xe_HasLeft ?xc_HasLeft ?xo_HasLeft ?xb_HasLeft ?xg_HasLeft ?xn_HasLeft ?xt_HasLeft ?xk_HasLeft ?x_BadSearch ?xe_BadSearch ?xc_BadSearch ?xo_BadSearch ?xb_BadSearch ?xg_BadSearch ?xn_BadSearch ?xt_BadSearch ?xk_BadSearch ?mq_BadWay ?ft_BadWay_0 ?ft_BadWay_1 ?ft_BadWay_2 ?ft_BadWay_3 ?ft_BadWay_4 ?ft_BadWay_5 ?ft_BadWay_6 ?ft_BadWay_7 ?ft_BadWay_8 ?ft_BadWay_9 ?ft_BadWay_10 ?ft_BadWay_11 ?ft_BadWay_12 ?ft_BadWay_13 ?ft_BadWay_V
    (case g_Terms => k_is)
    (case a_is_small_letter => k_is)
    (case l_is_small_letter => k_is)
    (case c_is_small_letter => k_is)
    (case k_is_small_letter => k_is)
    (case a_is_word => k_is)
    (case l_is_word => k_is)
    (case c_is_word => k_is)
    (case k_is_word => k_is)
    (case a_is_between => k_is)
    (case l_is_between => k_is)
    (case c_is_between => k_is)
    (case k_is_between => k_is)
    (case a_check_number => k_is)
    (case l_check_number => k_is)
    (case c_check_number => k_is)
    (case k_check_number => k_is)
    (case a_check_near_form => k_is)
    (case l_check_near_form => k_is)
    (case c_check_near_form => k_is)
    (case k_check_near_form => k_is)
    (case a_near_prices => k_is)
    (case l_near_prices => k_is)
    (case c_near_prices => k_is)
    (case k_near_prices => k_is)
    (case a_Terms___init__ => k_is)
    (case i_Terms___init__ => k_is)
    (case l_Terms___init__ => k_is)
    (case c_Terms___init__ => k_is)
    (case k_Terms___init__ => k_is)
    (case dv_Terms___init__ => k_is)
    (case a_Terms_pair_worth => k_is)
    (case i_Terms_pair_worth => k_is)
    (case l_Terms_pair_worth => k_is)
    (case c_Terms_pair_worth => k_is)
    (case k_Terms_pair_worth => k_is)
    (case a_is_place => k_is)
    (case l_is_place => k_is)
    (case c_is_place => k_is)
    (case k_is_place => k_is)
    (case a_standing_worth => k_is)
    (case l_standing_worth => k_is)
    (case c_standing_worth => k_is)
    (case k_standing_worth => k_is)
    (case a_price_between => k_is)
    (case l_price_between => k_is)
    (case c_price_between => k_is)
    (case k_price_between => k_is)
    (case a_way_row => k_is)
    (case l_way_row => k_is)
    (case c_way_row => k_is)
    (case k_way_row => k_is)
    (case a_way_worth => k_is)
    (case l_way_worth => k_is)
    (case c_way_worth => k_is)
    (case k_way_worth => k_is)
    (case a__law_at => k_is)
    (case l__law_at => k_is)
    (case c__law_at => k_is)
    (case k__law_at => k_is)
    (case a__law_whole => k_is)
    (case l__law_whole => k_is)
    (case c__law_whole => k_is)
    (case k__law_whole => k_is)
    (case a__law_bank => k_is)
    (case l__law_bank => k_is)
    (case c__law_bank => k_is)
    (case k__law_bank => k_is)
    (case a__law_book => k_is)
    (case l__law_book => k_is)
    (case c__law_book => k_is)
    (case k__law_book => k_is)
    (case a__law_quote => k_is)
    (case l__law_quote => k_is)
    (case c__law_quote => k_is)
    (case k__law_quote => k_is)
    (case a__law_numbers => k_is)
    (case l__law_numbers => k_is)
    (case c__law_numbers => k_is)
    (case k__law_numbers => k_is)
    (case a__law_near => k_is)
    (case l__law_near => k_is)
    (case c__law_near => k_is)
    (case k__law_near => k_is)
    (case a__law_case => k_is)
    (case l__law_case => k_is)
    (case c__law_case => k_is)
    (case k__law_case => k_is)
    (case a__law_pair => k_is)
    (case l__law_pair => k_is)
    (case c__law_pair => k_is)
    (case k__law_pair => k_is)
    (case a__law_worth => k_is)
    (case l__law_worth => k_is)
    (case c__law_worth => k_is)
    (case k__law_worth => k_is)
    (case a__law_drawn => k_is)
    (case l__law_drawn => k_is)
    (case c__law_drawn => k_is)
    (case k__law_drawn => k_is)
    (case a__law_row => k_is)
    (case l__law_row => k_is)
    (case c__law_row => k_is)
    (case k__law_row => k_is)
    (case a__law_kind => k_is)
    (case l__law_kind => k_is)
    (case c__law_kind => k_is)
    (case k__law_kind => k_is)
    (case a__law_terms => k_is)
    (case l__law_terms => k_is)
    (case c__law_terms => k_is)
    (case k__law_terms => k_is)
    (case a__law_is_way => k_is)
    (case l__law_is_way => k_is)
    (case c__law_is_way => k_is)
    (case k__law_is_way => k_is)
    (case a__law_spoiled => k_is)
    (case l__law_spoiled => k_is)
    (case c__law_spoiled => k_is)
    (case k__law_spoiled => k_is)
    (case a_law => k_is)
    (case l_law => k_is)
    (case c_law => k_is)
    (case k_law => k_is)
    (case gp_Terms => k_is)
    (case gh_Terms => k_is)
    (case go_Terms => k_is)
    (case gs_Terms => k_is)
    (case gm_Terms => k_is)
    (case gk_Terms => k_is)
    (case na_Terms_same => k_is)
    (case na_Terms_out => k_is)
    (case na_Terms_into => k_is)
    (case na_Terms_least => k_is)
    (case na_Terms_part => k_is)
    (case na_Terms_near => k_is)
    (case na_Terms_prices => k_is)
    (case z_len => k_is)
    (case z_range => k_is)
    (case z_isinstance => k_is)
    (case z_int => k_is)
    (case z_bool => k_is)
    (case z_str => k_is)
    (case z_list => k_is)
    (case z_tuple => k_is)
    (case z_dict => k_is)
    (case z_all => k_is)
    (case z_any => k_is)
    (case z_min => k_is)
    (case z_max => k_is)
    (case z_enumerate => k_is)
    (case z_ValueError => k_is)
    (case y_WORD_MOST => k_is)
    (case y_WORTH_MOST => k_is)
    (case y_NEAR_MOST => k_is)
    (case y_PART_MOST => k_is)
    (case x_QuoteError => k_is)
    (case xe_QuoteError => k_exc)
    (case xc_QuoteError => k_is)
    (case xo_QuoteError => k_is)
    (case xb_QuoteError => k_is)
    (case xg_QuoteError => k_is)
    (case xn_QuoteError => k_is)
    (case xt_QuoteError => k_is)
    (case xk_QuoteError => k_is)
    (case x_BadWord => k_is)
    (case xe_BadWord => k_exc)
    (case xc_BadWord => k_is)
    (case xo_BadWord => k_is)
    (case xb_BadWord => k_is)
    (case xg_BadWord => k_is)
    (case xn_BadWord => k_is)
    (case xt_BadWord => k_is)
    (case xk_BadWord => k_is)
    (case x_BadBook => k_is)
    (case xe_BadBook => k_exc)
    (case xc_BadBook => k_is)
    (case xo_BadBook => k_is)
    (case xb_BadBook => k_is)
    (case xg_BadBook => k_is)
    (case xn_BadBook => k_is)
    (case xt_BadBook => k_is)
    (case xk_BadBook => k_is)
    (case x_BadTerms => k_is)
    (case xe_BadTerms => k_exc)
    (case xc_BadTerms => k_is)
    (case xo_BadTerms => k_is)
    (case xb_BadTerms => k_is)
    (case xg_BadTerms => k_is)
    (case xn_BadTerms => k_is)
    (case xt_BadTerms => k_is)
    (case xk_BadTerms => k_is)
    (case x_BadNear => k_is)
    (case xe_BadNear => k_exc)
    (case xc_BadNear => k_is)
    (case xo_BadNear => k_is)
    (case xb_BadNear => k_is)
    (case xg_BadNear => k_is)
    (case xn_BadNear => k_is)
    (case xt_BadNear => k_is)
    (case xk_BadNear => k_is)
    (case x_BadWay => k_is)
    (case xe_BadWay => k_exc)
    (case xc_BadWay => k_is)
    (case xo_BadWay => k_is)
    (case xb_BadWay => k_is)
    (case xg_BadWay => k_is)
    (case xn_BadWay => k_is)
    (case xt_BadWay => k_is)
    (case xk_BadWay => k_is)
    (case x_BadName => k_is)
    (case xe_BadName => k_exc)
    (case xc_BadName => k_is)
    (case xo_BadName => k_is)
    (case xb_BadName => k_is)
    (case xg_BadName => k_is)
    (case xn_BadName => k_is)
    (case xt_BadName => k_is)
    (case xk_BadName => k_is)
    (case x_BadYear => k_is)
    (case xe_BadYear => k_exc)
    (case xc_BadYear => k_is)
    (case xo_BadYear => k_is)
    (case xb_BadYear => k_is)
    (case xg_BadYear => k_is)
    (case xn_BadYear => k_is)
    (case xt_BadYear => k_is)
    (case xk_BadYear => k_is)
    (case x_NameTaken => k_is)
    (case xe_NameTaken => k_exc)
    (case xc_NameTaken => k_is)
    (case xo_NameTaken => k_is)
    (case xb_NameTaken => k_is)
    (case xg_NameTaken => k_is)
    (case xn_NameTaken => k_is)
    (case xt_NameTaken => k_is)
    (case xk_NameTaken => k_is)
    (case x_Full => k_is)
    (case xe_Full => k_exc)
    (case xc_Full => k_is)
    (case xo_Full => k_is)
    (case xb_Full => k_is)
    (case xg_Full => k_is)
    (case xn_Full => k_is)
    (case xt_Full => k_is)
    (case xk_Full => k_is)
    (case x_TooMany => k_is)
    (case xe_TooMany => k_exc)
    (case xc_TooMany => k_is)
    (case xo_TooMany => k_is)
    (case xb_TooMany => k_is)
    (case xg_TooMany => k_is)
    (case xn_TooMany => k_is)
    (case xt_TooMany => k_is)
    (case xk_TooMany => k_is)
    (case x_NoBook => k_is)
    (case xe_NoBook => k_exc)
    (case xc_NoBook => k_is)
    (case xo_NoBook => k_is)
    (case xb_NoBook => k_is)
    (case xg_NoBook => k_is)
    (case xn_NoBook => k_is)
    (case xt_NoBook => k_is)
    (case xk_NoBook => k_is)
    (case x_NoFinding => k_is)
    (case xe_NoFinding => k_exc)
    (case xc_NoFinding => k_is)
    (case xo_NoFinding => k_is)
    (case xb_NoFinding => k_is)
    (case xg_NoFinding => k_is)
    (case xn_NoFinding => k_is)
    (case xt_NoFinding => k_is)
    (case xk_NoFinding => k_is)
    (case x_HasLeft => k_is)
    (case xe_HasLeft => k_exc)
    (case xc_HasLeft => k_is)
    (case xo_HasLeft => k_is)
    (case xb_HasLeft => k_is)
    (case xg_HasLeft => k_is)
    (case xn_HasLeft => k_is)
    (case xt_HasLeft => k_is)
    (case xk_HasLeft => k_is)
    (case x_BadSearch => k_is)
    (case xe_BadSearch => k_exc)
    (case xc_BadSearch => k_is)
    (case xo_BadSearch => k_is)
    (case xb_BadSearch => k_is)
    (case xg_BadSearch => k_is)
    (case xn_BadSearch => k_is)
    (case xt_BadSearch => k_is)
    (case xk_BadSearch => k_is)
    (case mq_BadWay => k_is)
    (case ft_BadWay_0 => kit_is)
    (case ft_BadWay_1 => kit_is)
    (case ft_BadWay_2 => kit_is)
    (case ft_BadWay_3 => kit_is)
    (case ft_BadWay_4 => kit_is)
    (case ft_BadWay_5 => kit_is)
    (case ft_BadWay_6 => kit_is)
    (case ft_BadWay_7 => kit_is)
    (case ft_BadWay_8 => kit_is)
    (case ft_BadWay_9 => kit_is)
    (case ft_BadWay_10 => kit_is)
    (case ft_BadWay_11 => kit_is)
    (case ft_BadWay_12 => kit_is)
    (case ft_BadWay_13 => kit_is)
    (case ft_BadWay_V => kit_is)
#print axioms PySem.Challenge.cw_quotefind_k09_no_ways_holds
