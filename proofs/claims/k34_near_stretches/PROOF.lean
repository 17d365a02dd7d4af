import PyProof.Rows.All
import Wide.All
import OpenK.AllK
import Wide.FinOn
import Lean
import PyProof.EqAt
import PyProof.EqKinds
import PyProof.TupleCall
import PySem.Challenge.RW_quotefind_k34_near_stretches
set_option Elab.async false
set_option linter.all false
set_option maxRecDepth 100000
/-! THE HAND LAYER, for ints, bools, texts, own classes, LISTS and tuples (index, slices, in, append, pop ..), calls, loops. Paste it whole ahead of your own text; what your proof does not reach may be deleted. -/
namespace L2
open PySem PySem.Spec PyProof.Rows

/-- a key: an int or a str -/
abbrev Key := Sum Int Str
def keyIs : Key → Value → Bool
  | .inl k, v => Value.isInt k v
  | .inr x, v => Value.isStrOf x v
def keyH (w : World) : Key → Int
  | .inl k => hashInt k
  | .inr x => hashStr w x
theorem keyIs_shape : ∀ {k : Key} {v : Value}, keyIs k v = true → (∃ i t, k = Sum.inl i ∧ v = Value.int i t) ∨ (∃ x t, k = Sum.inr x ∧ v = Value.str x t)
  | .inl i, v, h => by
    obtain ⟨t, e⟩ := Value.isInt_shape (k := i) (v := v) h
    exact .inl ⟨i, t, rfl, e⟩
  | .inr x, v, h => by
    obtain ⟨t, e⟩ := Value.isStrOf_shape (x := x) (v := v) h
    exact .inr ⟨x, t, rfl, e⟩
theorem keyIs_int (i : Int) (t : Tok) : keyIs (.inl i) (.int i t) = true := by simp [keyIs, Value.isInt]
theorem keyIs_str (x : Str) (t : Tok) : keyIs (.inr x) (.str x t) = true := by simp [keyIs, Value.isStrOf]
theorem key_ll (a b : Int) : decide ((Sum.inl a : Key) = Sum.inl b) = (a == b) := by
  by_cases e : a = b
  · subst e; simp
  · have h : ¬ (Sum.inl a : Key) = Sum.inl b := fun q => e (Sum.inl.inj q)
    rw [decide_eq_false h]
    exact (beq_eq_false_iff_ne.mpr e).symm
theorem key_rr (a b : Str) : decide ((Sum.inr a : Key) = Sum.inr b) = decide (a = b) := by
  by_cases e : a = b
  · subst e; simp
  · have h : ¬ (Sum.inr a : Key) = Sum.inr b := fun q => e (Sum.inr.inj q)
    rw [decide_eq_false h, decide_eq_false e]
theorem key_lr (a : Int) (b : Str) : decide ((Sum.inl a : Key) = Sum.inr b) = false := decide_eq_false (fun q => nomatch q)
theorem key_rl (a : Str) (b : Int) : decide ((Sum.inr a : Key) = Sum.inl b) = false := decide_eq_false (fun q => nomatch q)

def mixKind (prog : Program) (w : World) : PySem.KeyKind prog w Key where
  is := keyIs
  hash := keyH w
  inj := fun v a b ha hb => by
    rcases keyIs_shape ha with ⟨i, t, rfl, rfl⟩ | ⟨x, t, rfl, rfl⟩
    · rcases keyIs_shape hb with ⟨j, u, rfl, e⟩ | ⟨y, u, rfl, e⟩
      · injection e with e1 _; rw [e1]
      · exact nomatch e
    · rcases keyIs_shape hb with ⟨j, u, rfl, e⟩ | ⟨y, u, rfl, e⟩
      · exact nomatch e
      · injection e with e1 _; rw [e1]
  byValue := fun k v h => by
    rcases keyIs_shape h with ⟨i, t, rfl, rfl⟩ | ⟨x, t, rfl, rfl⟩ <;> rfl
  pyHash := fun hv h => by
    rcases keyIs_shape hv with ⟨i, t, rfl, rfl⟩ | ⟨x, t, rfl, rfl⟩
    · exact wpAny_pyHash_int h
    · exact wpAny_pyHash_str h
  eqBool := fun hu hv h => by
    rcases keyIs_shape hu with ⟨i, t, rfl, rfl⟩ | ⟨x, t, rfl, rfl⟩
    · rcases keyIs_shape hv with ⟨j, u, rfl, rfl⟩ | ⟨y, u, rfl, rfl⟩
      · rw [key_ll] at h; exact wpAny_eqBool_int h
      · rw [key_lr] at h; exact SeqAt.EqAt.int_str i t y u _ _ _ _ h
    · rcases keyIs_shape hv with ⟨j, u, rfl, rfl⟩ | ⟨y, u, rfl, rfl⟩
      · rw [key_rl] at h; exact SeqAt.EqAt.str_int x t j u _ _ _ _ h
      · rw [key_rr] at h; exact wpAny_eqBool_str h
  «strs» := fun k x t v h => by
    rcases keyIs_shape h with ⟨i, u, rfl, e⟩ | ⟨y, u, rfl, e⟩
    · exact nomatch e
    · injection e with e1 _
      subst e1
      cases v <;> rfl

theorem mixKind_int (prog : Program) (w : World) (i : Int) (t : Tok) : (mixKind prog w).is (.inl i) (.int i t) = true := keyIs_int i t
theorem mixKind_str (prog : Program) (w : World) (x : Str) (t : Tok) : (mixKind prog w).is (.inr x) (.str x t) = true := keyIs_str x t
end L2

namespace L2
open PySem PySem.Spec PyProof.Rows

/-- a value, without the heap -/
inductive V where
  | non | bl (b : Bool) | int (i : Int) | str (x : Str) | byt (b : Array UInt8) | flt (b : UInt64) | ref (a : Addr) | ty (n : String)
  deriving DecidableEq

def RelV : V → Value → Prop
  | .non, u => u = Value.none
  | .bl b, u => u = Value.bool b
  | .int i, u => ∃ t, u = Value.int i t
  | .str x, u => ∃ t, u = Value.str x t
  | .byt b, u => ∃ t, u = Value.bytes b t
  | .flt b, u => ∃ t, u = Value.float b t
  | .ref a, u => u = Value.ref a
  | .ty n, u => u = Value.type n

abbrev Vals : List V → List Value → Prop := Paired RelV
theorem Vals.length {xs : List V} {us : List Value} (r : Vals xs us) : xs.length = us.length := Paired.length r
theorem Vals.get : ∀ {xs : List V} {us : List Value} {i : Nat} {x : V}, Vals xs us → xs[i]? = some x → ∃ u, us[i]? = some u ∧ RelV x u
  | _, _, _, _, .nil, e => by simp at e
  | _, _, 0, _, .cons r _, e => by simp at e; subst e; exact ⟨_, rfl, r⟩
  | _, _, i + 1, x, .cons _ t, e => by
    obtain ⟨u, h1, h2⟩ := Vals.get (i := i) (x := x) t (by simpa using e)
    exact ⟨u, by simpa using h1, h2⟩
theorem Vals.set {x : V} {u : Value} (r : RelV x u) : ∀ {xs : List V} {us : List Value} (i : Nat), Vals xs us → Vals (xs.set i x) (us.set i u)
  | _, _, _, .nil => .nil
  | _, _, 0, .cons _ t => .cons r t
  | _, _, i + 1, .cons q t => .cons q (Vals.set r i t)
theorem Vals.append : ∀ {xs ys : List V} {us ws : List Value}, Vals xs us → Vals ys ws → Vals (xs ++ ys) (us ++ ws)
  | _, _, _, _, .nil, s => s
  | _, _, _, _, .cons r t, s => .cons r (Vals.append t s)
theorem Vals.take : ∀ {xs : List V} {us : List Value} (n : Nat), Vals xs us → Vals (xs.take n) (us.take n)
  | _, _, 0, _ => .nil
  | _, _, _ + 1, .nil => .nil
  | _, _, n + 1, .cons r t => .cons r (Vals.take n t)
theorem Vals.drop : ∀ {xs : List V} {us : List Value} (n : Nat), Vals xs us → Vals (xs.drop n) (us.drop n)
  | _, _, 0, r => r
  | _, _, _ + 1, .nil => .nil
  | _, _, n + 1, .cons _ t => Vals.drop n t
def RelO : Option V → Option Value → Prop
  | some v, some u => RelV v u
  | none, none => True
  | _, _ => False
def KV {κ : Type} : List (κ × V) → List (κ × Value) → Prop := Paired fun (p : κ × V) (q : κ × Value) => p.1 = q.1 ∧ RelV p.2 q.2

/-- a key of a dict (00_mix): an int or a text -/
def kV : Key → V
  | .inl i => .int i
  | .inr x => .str x

/-- what stands at a tracked address -/
inductive HO where
  /-- a list -/
  | lst (xs : List V)
  /-- a tuple (never changes) -/
  | tup (xs : List V)
  /-- a dict whose keys are ints and texts; one whose keys are tuples of ints and texts (the empty one is both) -/
  | dK (kvs : List (Key × V)) | dT (kvs : List (List Key × V))
  /-- a set of ints: its members, its size -/
  | set (S : Int → Bool) (n : Nat)
  /-- an instance of the class at C, its dict at dx, its attributes -/
  | ins (C dx : Addr) (fs : List (Str × V))
  /-- the dict of the instance at x -/
  | own (x : Addr)
  /-- the dict of an exception -/
  | xd (fs : List (Str × V))
  /-- a bound method, f of x -/
  | met (f x : Addr)
  /-- a range object lo, lo + 1, .. below hi -/
  | rng (lo hi : Int)
  /-- a thing that is known to the object (the script; a dict while a loop walks it): read, never written while it is so -/
  | frz (o : Obj) (u : HO)
  /-- a code object's table -/
  | tbl (ps : Array Value)
  /-- any other thing, by what is true of its one object (a def of one's own: SetO a S n := HO.ext fun h => ..) -/
  | ext (φ : Heap → Prop)

abbrev Hp := Addr → Option HO
def upd (H : Hp) (a : Addr) (o : HO) : Hp := fun b => if b = a then some o else H b
theorem upd_same {H : Hp} {a : Addr} {o : HO} : upd H a o a = some o := by unfold upd; rw [if_pos rfl]
theorem upd_ne {H : Hp} {a b : Addr} {o : HO} (h : b ≠ a) : upd H a o b = H b := by unfold upd; rw [if_neg h]
theorem upd_upd {H : Hp} {a : Addr} {o u : HO} : upd (upd H a o) a u = upd H a u := by
  funext b; unfold upd; split <;> rfl
/-- two objects of different content stand apart -/
theorem ne_of {H : Hp} {a b : Addr} {o u : HO} (h : H a = some o) (h' : H b = some u) (d : o ≠ u) : a ≠ b := by
  intro e; subst e; rw [h] at h'; exact d (Option.some.inj h')
theorem ne_of_none {H : Hp} {a b : Addr} {o : HO} (h : H a = some o) (h' : H b = none) : a ≠ b := by
  intro e; subst e; rw [h] at h'; cases h'

section
variable (P : Program) (w : World)
def ObjOk (H : Hp) (h : Heap) (a : Addr) : HO → Prop
  | .lst xs => xs.length ≤ sizeLine ∧ ∃ (its : List Value) (n : Nat), Vals xs its ∧ h.get? a = some { cls := .type "list", data := .seq its.toArray n }
  | .tup xs => xs.length ≤ sizeLine ∧ ∃ its : List Value, Vals xs its ∧ IsTup h a its.toArray
  | .dK kvs => kvs.length ≤ sizeLine ∧ (a == sysModules) = false ∧ ∃ vs, KV kvs vs ∧ h.DictOf (mixKind P w) a vs
  | .dT kvs => kvs.length ≤ sizeLine ∧ (a == sysModules) = false ∧ ∃ xs : List (List Key × Addr × Value),
      Paired (fun (p : List Key × V) (q : List Key × Addr × Value) => p.1 = q.1 ∧ H q.2.1 = some (.tup (p.1.map kV)) ∧ RelV p.2 q.2.2) kvs xs ∧
      ∃ o es ep, h.get? a = some o ∧ o.ExactDict ∧ o.data = .dict es ep ∧ es.toList = xs.map (entryOfKey (tupleKind (mixKind P w))) ∧ (xs.map (·.1)).Nodup
  | .set S n => h.SetOf (intKind P w) a S n
  | .ins C dx fs => H dx = some (.own a) ∧ fs.length ≤ 1000 ∧ dx ≠ a ∧ h.get? a = some (PySem.W.instObj C dx) ∧
      ∃ mA, h.Ns1 dx mA ∧ (∀ f, RelO (fs.lookup f) (mA f)) ∧ PySem.Within mA (fs.map (·.1))
  | .own _ => ∃ o, h.get? a = some o
  | .xd fs => ∃ mA, h.Ns1 a mA ∧ ∀ f, RelO (fs.lookup f) (mA f)
  | .rng lo hi => ∃ t u v, h.get? a = some { cls := .type "range", data := .fields #[.int lo t, .int hi u, .int 1 v] }
  | .frz o u => h.get? a = some o ∧ ObjOk H h a u
  | .tbl ps => h.get? a = some { cls := .none, data := .fields ps }
  | .met f x => h.get? a = some (PySem.W.methodObj (.ref f) (.ref x))
  | .ext φ => φ h ∧ (∃ o, h.get? a = some o) ∧ ∀ h1 h2 : Heap, φ h1 → (∀ o, h1.get? a = some o → h2.get? a = some o) → φ h2
/-- the abstract heap is held -/
def HOk (H : Hp) (h : Heap) : Prop := ∀ a o, H a = some o → ObjOk P w H h a o
end

section
variable {P : Program} {w : World} {H H' : Hp} {h h' : Heap} {a : Addr} {o : HO}
theorem ObjOk.lt (x : ObjOk P w H h a o) : a < h.objs.size := by
  cases o with
  | lst xs => obtain ⟨_, _, _, _, e⟩ := x; exact Heap.lt_size e
  | tup xs => obtain ⟨_, _, _, p⟩ := x; exact p.lt
  | dK kvs => obtain ⟨_, _, _, _, o, _, _, e, _⟩ := x; exact Heap.lt_size e
  | dT kvs => obtain ⟨_, _, _, _, o, _, _, e, _⟩ := x; exact Heap.lt_size e
  | set S n => obtain ⟨o, _, _, _, e, _⟩ := x; exact Heap.lt_size e
  | ins C dx fs => obtain ⟨_, _, _, e, _⟩ := x; exact Heap.lt_size e
  | own y => obtain ⟨_, e⟩ := x; exact Heap.lt_size e
  | xd fs => obtain ⟨_, ⟨_, _, _, e, _⟩, _⟩ := x; exact Heap.lt_size e
  | rng lo hi => obtain ⟨_, _, _, e⟩ := x; exact Heap.lt_size e
  | frz ob u => obtain ⟨e, _⟩ := x; exact Heap.lt_size e
  | tbl ps => exact Heap.lt_size (show h.get? a = some _ from x)
  | met f y => exact Heap.lt_size (show h.get? a = some _ from x)
  | ext φ => obtain ⟨_, ⟨_, e⟩, _⟩ := x; exact Heap.lt_size e
theorem Paired.mapP {α β : Type} {F G : α → β → Prop} : ∀ {l₁ : List α} {l₂ : List β}, Paired F l₁ l₂ → (∀ a b, F a b → G a b) → Paired G l₁ l₂
  | _, _, .nil, _ => .nil
  | _, _, .cons r t, f => .cons (f _ _ r) (Paired.mapP t f)
/-- what an object's description leans on: its own object, its own dict, the tuples -/
theorem ObjOk.stay (x : ObjOk P w H h a o) (k : ∀ b u, (b = a ∨ H b = some (.own a)) → h.get? b = some u → h'.get? b = some u)
    (ho : ∀ b, H b = some (.own a) → H' b = some (.own a)) (ht : ∀ b xs, H b = some (.tup xs) → H' b = some (.tup xs)) : ObjOk P w H' h' a o := by
  induction o with
  | lst xs => obtain ⟨z, its, n, r, e⟩ := x; exact ⟨z, its, n, r, k _ _ (.inl rfl) e⟩
  | tup xs => obtain ⟨z, its, r, ob, e, c⟩ := x; exact ⟨z, its, r, ob, k _ _ (.inl rfl) e, c⟩
  | dK kvs => obtain ⟨z, y, vs, r, ob, es, ep, e, c⟩ := x; exact ⟨z, y, vs, r, ob, es, ep, k _ _ (.inl rfl) e, c⟩
  | dT kvs =>
    obtain ⟨z, y, xs, r, ob, es, ep, e, c⟩ := x
    exact ⟨z, y, xs, Paired.mapP r fun p q z => ⟨z.1, ht _ _ z.2.1, z.2.2⟩, ob, es, ep, k _ _ (.inl rfl) e, c⟩
  | set S n => obtain ⟨ob, es, ep, t, e, c⟩ := x; exact ⟨ob, es, ep, t, k _ _ (.inl rfl) e, c⟩
  | ins C dx fs =>
    obtain ⟨d, z, ne, e, mA, ⟨od, es, ep, e2, c⟩, r⟩ := x
    exact ⟨ho _ d, z, ne, k _ _ (.inl rfl) e, mA, ⟨od, es, ep, k _ _ (.inr d) e2, c⟩, r⟩
  | own y => obtain ⟨ob, e⟩ := x; exact ⟨ob, k _ _ (.inl rfl) e⟩
  | xd fs => obtain ⟨mA, ⟨od, es, ep, e, c⟩, r⟩ := x; exact ⟨mA, ⟨od, es, ep, k _ _ (.inl rfl) e, c⟩, r⟩
  | rng lo hi => obtain ⟨t, u, v, e⟩ := x; exact ⟨t, u, v, k _ _ (.inl rfl) e⟩
  | frz ob u ih => obtain ⟨e, q⟩ := x; exact ⟨k _ _ (.inl rfl) e, ih q⟩
  | tbl ps =>
    have e : h.get? a = some { cls := .none, data := .fields ps } := x
    show h'.get? a = some { cls := .none, data := .fields ps }
    exact k a _ (.inl rfl) e
  | met f y =>
    have e : h.get? a = some (PySem.W.methodObj (.ref f) (.ref y)) := x
    show h'.get? a = some (PySem.W.methodObj (.ref f) (.ref y))
    exact k a _ (.inl rfl) e
  | ext φ => obtain ⟨p, ⟨o, e⟩, st⟩ := x; exact ⟨st _ _ p fun o q => k _ _ (.inl rfl) q, ⟨o, k _ _ (.inl rfl) e⟩, st⟩
theorem HOk.lt (x : HOk P w H h) (e : H a = some o) : a < h.objs.size := (x a o e).lt
theorem HOk.fresh (x : HOk P w H h) (e : h.objs.size ≤ a) : H a = none := by
  cases q : H a with
  | none => rfl
  | some u => exact absurd (Nat.lt_of_lt_of_le (x.lt q) e) (Nat.lt_irrefl _)
/-- every object of the heap is kept -/
theorem HOk.kept (x : HOk P w H h) (k : ∀ b u, h.get? b = some u → h'.get? b = some u) : HOk P w H h' := fun a o e =>
  (x a o e).stay (fun b u _ q => k b u q) (fun _ q => q) fun _ _ q => q
/-- a new object is laid and tracked -/
theorem HOk.laid (x : HOk P w H h) (k : ∀ b u, h.get? b = some u → h'.get? b = some u) (hp : h.objs.size ≤ a) (new : ObjOk P w (upd H a o) h' a o) : HOk P w (upd H a o) h' := fun b u e => by
  have hn := x.fresh hp
  by_cases hb : b = a
  · subst hb; rw [upd_same] at e; cases e; exact new
  · rw [upd_ne hb] at e
    exact (x b u e).stay (fun c v _ q => k c v q) (fun c q => by rw [upd_ne (ne_of_none q hn)]; exact q) fun c xs q => by rw [upd_ne (ne_of_none q hn)]; exact q
end

/-- what may be read as u: it is u, or a known u -/
def Rd (H : Hp) (a : Addr) (u : HO) : Prop := H a = some u ∨ ∃ o, H a = some (.frz o u)
theorem Rd.ok {P : Program} {w : World} {H : Hp} {h : Heap} {a : Addr} {u : HO} (r : Rd H a u) (x : HOk P w H h) : ObjOk P w H h a u := by
  rcases r with r | ⟨o, r⟩
  · exact x a u r
  · obtain ⟨_, q⟩ := x a _ r
    exact q
/-- what may be written -/
def Mut : Option HO → Prop
  | some (.lst _) => True
  | some (.dK _) => True
  | some (.dT _) => True
  | some (.set _ _) => True
  | some (.ins _ _ _) => True
  | some (.ext _) => True
  | _ => False
section
variable {P : Program} {w : World} {H : Hp} {h h' : Heap} {x e : Addr} {o' : HO}
/-- the object at e is changed: x itself, or the dict of the instance x -/
theorem HOk.write (ok : HOk P w H h) (mu : Mut (H x)) (he : e = x ∨ H e = some (.own x)) (k : ∀ b u, b ≠ e → h.get? b = some u → h'.get? b = some u) (heo : ∃ u, h'.get? e = some u)
    (new : ObjOk P w (upd H x o') h' x o') : HOk P w (upd H x o') h' := fun b u q => by
  have nown : ∀ c y, H c = some (.own y) → c ≠ x := fun c y r z => by subst z; rw [r] at mu; exact mu
  have ntup : ∀ c xs, H c = some (.tup xs) → c ≠ x := fun c xs r z => by subst z; rw [r] at mu; exact mu
  by_cases hb : b = x
  · subst hb; rw [upd_same] at q; cases q; exact new
  · rw [upd_ne hb] at q
    by_cases hbe : b = e
    · have q' : H b = some (.own x) := by
        rcases he with z | z
        · exact absurd (hbe.trans z) hb
        · rw [hbe]; exact z
      rw [q] at q'; cases q'
      obtain ⟨v, hv⟩ := heo
      exact ⟨v, by rw [hbe]; exact hv⟩
    · refine (ok b u q).stay (fun c v hc r => k c v ?_ r) (fun c r => by rw [upd_ne (nown c b r)]; exact r) fun c xs r => by rw [upd_ne (ntup c xs r)]; exact r
      rcases hc with rfl | hc
      · exact hbe
      · rintro rfl
        rcases he with z | z
        · exact nown c b hc z
        · rw [hc] at z; cases z; exact hb rfl
end

/-! ### kept unless tracked; of the frames at fs (the callers') the slots may change (an exception that passes writes there); of the records at ex (iterators) nothing is said -/
structure Un (fs ex : List Addr) (H H' : Hp) (h h' : Heap) : Prop where
  keep : ∀ b o, h.get? b = some o → H b = none → b ∉ fs → b ∉ ex → h'.get? b = some o
  slot : ∀ b o, h.get? b = some o → H b = none → b ∈ fs → b ∉ ex → ∃ sl, h'.get? b = some { o with slots := sl }
  free : ∀ b o, h.get? b = some o → H b = none → b ∉ ex → H' b = none
  there : ∀ b o, h.get? b = some o → b ∉ ex → ∃ o', h'.get? b = some o'
  tups : ∀ b xs, H b = some (.tup xs) → H' b = some (.tup xs)
  frzs : ∀ b o u, H b = some (.frz o u) → H' b = some (.frz o u)
  tbls : ∀ b ps, H b = some (.tbl ps) → ∃ more, H' b = some (.tbl (ps ++ more))
section
variable {fs fs' ex ex' : List Addr} {H H1 H2 : Hp} {h h1 h2 h' : Heap} {a x e : Addr} {o : HO}
theorem Un.any (u : Un fs ex H H1 h h1) {b : Addr} {ob : Obj} (q : h.get? b = some ob) (n : H b = none) (hx : b ∉ ex) : ∃ sl, h1.get? b = some { ob with slots := sl } := by
  by_cases hb : b ∈ fs
  · exact u.slot b ob q n hb hx
  · exact ⟨ob.slots, u.keep b ob q n hb hx⟩
theorem Un.kept (k : ∀ b u, h.get? b = some u → h'.get? b = some u) : Un fs ex H H h h' :=
  ⟨fun b ob q _ _ _ => k b ob q, fun b ob q _ _ _ => ⟨ob.slots, k b ob q⟩, fun _ _ _ n _ => n, fun b ob q _ => ⟨ob, k b ob q⟩, fun _ _ q => q, fun _ _ _ q => q, fun _ ps q => ⟨#[], by rw [q]; simp⟩⟩
theorem Un.refl : Un fs ex H H h h := Un.kept fun _ _ q => q
theorem Un.laid (k : ∀ b u, h.get? b = some u → h'.get? b = some u) (hp : h.objs.size ≤ a) (hn : H a = none) : Un fs ex H (upd H a o) h h' where
  keep := fun b u q _ _ _ => k b u q
  slot := fun b u q _ _ _ => ⟨u.slots, k b u q⟩
  free := fun b u q n _ => by rw [upd_ne (Nat.ne_of_lt (Nat.lt_of_lt_of_le (Heap.lt_size q) hp))]; exact n
  there := fun b u q _ => ⟨u, k b u q⟩
  tups := fun b xs q => by rw [upd_ne (ne_of_none q hn)]; exact q
  frzs := fun b u xs q => by rw [upd_ne (ne_of_none q hn)]; exact q
  tbls := fun b ps q => ⟨#[], by rw [upd_ne (ne_of_none q hn), q]; simp⟩
theorem Un.write (mu : Mut (H x)) (he : e = x ∨ H e = some (.own x)) (k : ∀ b u, b ≠ e → h.get? b = some u → h'.get? b = some u) (heo : ∃ u, h'.get? e = some u) : Un fs ex H (upd H x o) h h' := by
  have hx : ∀ b, H b = none → b ≠ x := fun b n z => by subst z; rw [n] at mu; exact mu
  have hb : ∀ b, H b = none → b ≠ e := fun b n z => by
    subst z
    rcases he with r | r
    · exact hx b n r
    · rw [n] at r; cases r
  have hm : ∀ b u, H b = some u → ¬ Mut (some u) → b ≠ x := fun b u q nm z => by subst z; rw [q] at mu; exact nm mu
  refine ⟨fun b u q n _ _ => k b u (hb b n) q, fun b u q n _ _ => ⟨u.slots, k b u (hb b n) q⟩, fun b u q n _ => by rw [upd_ne (hx b n)]; exact n, fun b u q _ => ?_,
    fun b xs q => by rw [upd_ne (hm b _ q fun z => z)]; exact q, fun b u xs q => by rw [upd_ne (hm b _ q fun z => z)]; exact q, fun b ps q => ⟨#[], by rw [upd_ne (hm b _ q fun z => z), q]; simp⟩⟩
  by_cases hbe : b = e
  · subst hbe; exact heo
  · exact ⟨u, k b u hbe q⟩
end

/-! ### the heap without what is tracked -/
def trk (h : Heap) (H : Hp) : List Addr := (List.range h.objs.size).filter fun a => (H a).isSome
def hidT (h : Heap) (H : Hp) : Heap := PySem.W.hideAll h (trk h H)
theorem hidT_size (h : Heap) (H : Hp) : (hidT h H).objs.size = h.objs.size := PySem.W.hideAll_size _ _
theorem hidT_get {h : Heap} {H : Hp} {b : Addr} {o : Obj} (e : h.get? b = some o) (n : H b = none) : (hidT h H).get? b = some o :=
  PySem.W.hideAll_get _ e fun hm => by
    have q : (H b).isSome = true := (List.mem_filter.mp hm).2
    rw [n] at q; simp at q
theorem of_hidT {h : Heap} {H : Hp} {b : Addr} {o : Obj} (e : (hidT h H).get? b = some o) : h.get? b = some o ∧ H b = none := by
  have e' : h.get? b = some o := PySem.W.of_hideAll (trk h H) e
  refine ⟨e', ?_⟩
  cases q : H b with
  | none => rfl
  | some x =>
    have hm : b ∈ trk h H := List.mem_filter.mpr ⟨List.mem_range.mpr (Heap.lt_size e'), by simp [q]⟩
    have z : (hidT h H).get? b = none := PySem.W.hideAll_none (trk h H) hm
    rw [z] at e; cases e

/-! ### OpenK's ledger, filled with every new object but one -/
def allNews (g h : Heap) (L : Addr) : List (Addr × Obj) := (List.range h.objs.size).filterMap fun a => if a = L ∨ (g.get? a).isSome = true then none else (h.get? a).map fun o => (a, o)
def rest (g h : Heap) (L d : Addr) : List (Addr × Obj) := (allNews g h L).filter fun p => decide (p.1 ≠ d)
end L2

namespace L2
open PySem PySem.Spec PyProof.Rows

/-- the module's facts, over the base: the heap at the law's entry without what is tracked there -/
structure Mod (K : PySem.W.Frag) (mg : Str → Option Value) (base : Heap) : Prop where
  kin : K.In base
  glob : base.Ns mainGlobals mg
  blt : ∃ mb, base.Ns builtinsNs mb ∧ ∀ x : Str, x ≠ "__name__" → mb x = bootBuiltins x
  nolimit : base.NoLimit

/-- the context: a def's body (or a comprehension's block) running. base: fixed through the whole law; s₀, H₀: the entry; outer: the frames whose slots others may change (a def's callers); stack: all frames that run;
   ex: iterators that were made ahead of the entry and are walked here (a comprehension's); fn: the names whose cells were made at the entry (a def: all; a comprehension's block: its own); calm: not within an except suite; pn: pins that every state bears; xe: what is wanted of an exception that leaves the code -/
structure Cx where
  prog : Program
  w : World
  K : PySem.W.Frag
  mg : Str → Option Value
  base : Heap
  A : Around
  N : List Str
  s₀ : Shared
  H₀ : Hp
  env : Env
  outer : List Env
  stack : List Env
  ex : List Addr
  fn : Str → Bool
  calm : Bool
  pn : List (Addr × Obj)
  xe : Value → Shared → Prop
/-- the callers' frames -/
def frs (l : List Env) : List Addr := l.filterMap (·.frame)
abbrev Cx.fs (X : Cx) : List Addr := frs X.outer

def Vis (sc : Scope) (x : Str) : Prop := sc.names.lookup x = some .local ∨ sc.names.lookup x = some .cell ∨ sc.names.lookup x = some .free
def Loc (sc : Scope) (x : Str) : Prop := sc.names.lookup x = some .local ∨ sc.names.lookup x = some .cell
def Look (env : Env) (h : Heap) (m : Str → Option Value) (x : Str) (u : Value) : Prop :=
  (env.kindOf x = some .local ∧ m x = some u) ∨ ((env.kindOf x = some .cell ∨ env.kindOf x = some .free) ∧ ∃ c, env.cells.lookup x = some c ∧ h.IsCell c (some u))

structure Cx.Ok (X : Cx) : Prop where
  mod : Mod X.K X.mg X.base
  kind : X.env.scope.kind = .function
  glob : X.env.globals = mainGlobals
  blt : X.env.builtins = builtinsNs
  above : X.s₀.heap.objs.size ≤ X.env.locals
  inj : ∀ x y c, X.env.cells.lookup x = some c → X.env.cells.lookup y = some c → x = y
  has : ∀ x, (X.env.kindOf x = some .cell ∨ X.env.kindOf x = some .free) → ∃ c, X.env.cells.lookup x = some c
  cab : ∀ x c, X.fn x = true → X.env.cells.lookup x = some c → X.s₀.heap.objs.size ≤ c
  hd : X.calm = true → X.A.handled = none
  frames : X.A.frames = some X.stack
  stk : X.stack = X.outer ∨ (X.stack = X.env :: X.outer ∧ X.env.frame = some X.env.locals)
  exf : ∀ b ∈ X.ex, b ≠ X.env.locals ∧ ∀ x c, X.env.cells.lookup x = some c → c ≠ b
  bs : ∀ b o, X.base.get? b = some o → X.s₀.heap.get? b = some o ∧ X.H₀ b = none
  bsz : X.base.objs.size ≤ X.s₀.heap.objs.size
  noex : ∀ b o, X.base.get? b = some o → b ∉ X.ex
  exfs : ∀ b ∈ X.ex, b ∉ X.fs
  funs : X.s₀.heap.FunFrames X.base X.outer
  frf : ∀ b ∈ X.fs, X.H₀ b = none

structure Inv (X : Cx) (pins : List (Addr × Obj)) (σ : List (Option V)) (H : Hp) (s : Shared) : Prop where
  ok : X.Ok
  os : s.os = X.s₀.os
  bare : AllBare s.gens
  base : Un X.fs X.ex X.H₀ H X.s₀.heap s.heap
  loc : ∃ m, s.heap.Ns X.env.locals m ∧ ∀ (i : Nat) (x : Str) (v : V), X.N[i]? = some x → σ[i]? = some (some v) → Vis X.env.scope x → ∃ u, RelV v u ∧ Look X.env s.heap m x u
  cell : ∀ x c, X.env.cells.lookup x = some c → ∃ v, s.heap.IsCell c v
  free : H X.env.locals = none
  freeC : ∀ x c, X.env.cells.lookup x = some c → H c = none
  pin : ∀ p ∈ X.pn ++ pins, s.heap.get? p.1 = some p.2 ∧ H p.1 = none ∧ p.1 ≠ X.env.locals ∧ p.1 ∉ X.fs ∧ ∀ v, p.2.data ≠ .cell v
  hok : HOk X.prog X.w H s.heap
  len : σ.length = X.N.length

section
variable {X : Cx} {pins : List (Addr × Obj)} {σ : List (Option V)} {H H' : Hp} {s : Shared} {h' : Heap}

theorem Cx.Ok.nofr (ok : X.Ok) {b : Addr} {o : Obj} (e : X.base.get? b = some o) : b ∉ X.fs := fun hb => by
  have := (ok.funs.mem hb).1
  rw [e] at this; cases this
theorem Inv.bs (I : Inv X pins σ H s) : ∀ b o, X.base.get? b = some o → s.heap.get? b = some o ∧ H b = none := fun b o e =>
  ⟨I.base.keep b o (I.ok.bs b o e).1 (I.ok.bs b o e).2 (I.ok.nofr e) (I.ok.noex b o e), I.base.free b o (I.ok.bs b o e).1 (I.ok.bs b o e).2 (I.ok.noex b o e)⟩
theorem Inv.bk (I : Inv X pins σ H s) : ∀ b o, X.base.get? b = some o → s.heap.get? b = some o := fun b o e => (I.bs b o e).1
theorem Inv.mod (I : Inv X pins σ H s) : Mod X.K X.mg X.base := I.ok.mod
theorem Inv.kIn (I : Inv X pins σ H s) : X.K.In s.heap := I.ok.mod.kin.keeps I.bk
theorem Inv.lt (I : Inv X pins σ H s) : X.env.locals < s.heap.objs.size := let ⟨_, hn, _⟩ := I.loc; hn.lt
theorem Inv.sz (I : Inv X pins σ H s) : X.s₀.heap.objs.size ≤ s.heap.objs.size := Nat.le_trans I.ok.above (Nat.le_of_lt I.lt)
theorem Inv.nofs (I : Inv X pins σ H s) {a : Addr} (h : s.heap.objs.size ≤ a) : a ∉ X.fs := fun hb => by
  obtain ⟨_, o, ho, _⟩ := I.ok.funs.mem hb
  exact absurd (Nat.lt_of_lt_of_le (Heap.lt_size ho) (Nat.le_trans I.sz h)) (Nat.lt_irrefl _)
theorem Inv.cne (I : Inv X pins σ H s) : ∀ x c, X.env.cells.lookup x = some c → c ≠ X.env.locals := fun x c e z => by
  obtain ⟨v, o, ho, hd⟩ := I.cell x c e
  obtain ⟨m, ⟨o', es, ep, ho', hd', _⟩, _⟩ := I.loc
  rw [z, ho'] at ho; cases ho; rw [hd'] at hd; cases hd
theorem Inv.funs (I : Inv X pins σ H s) : s.heap.FunFrames X.base X.outer := by
  have all : ∀ (l : List Env), (∀ b ∈ frs l, b ∈ X.fs) → X.s₀.heap.FunFrames X.base l → s.heap.FunFrames X.base l := by
    intro l
    induction l with
    | nil => intro _ _; trivial
    | cons env r ih =>
      intro hs hl
      obtain ⟨hk, ⟨L, o, hf, hn, ho, hd⟩, hr⟩ := hl
      have hL : L ∈ X.fs := hs L (by unfold frs; rw [List.filterMap_cons, hf]; exact List.mem_cons_self)
      obtain ⟨sl, e⟩ := I.base.slot L o ho (I.ok.frf L hL) hL fun z => I.ok.exfs L z hL
      exact ⟨hk, ⟨L, _, hf, hn, e, hd⟩, ih (fun b hb => hs b (by unfold frs; rw [List.filterMap_cons, hf]; exact List.mem_cons_of_mem _ hb)) hr⟩
  exact all X.outer (fun _ hb => hb) I.ok.funs

/-- the frames that run, for a call -/
theorem Inv.stack (I : Inv X pins σ H s) : s.heap.FunFrames X.base X.stack := by
  rcases I.ok.stk with e | ⟨e, hf⟩
  · rw [e]; exact I.funs
  · rw [e]
    obtain ⟨m, hn, _⟩ := I.loc
    refine .cons (by rw [I.ok.kind]; decide) hf hn ?_ I.funs
    exact Heap.get?_none_of_le (Nat.le_trans I.ok.bsz I.ok.above)
theorem Inv.stkSub (I : Inv X pins σ H s) : ∀ b ∈ frs X.stack, b ∈ X.env.locals :: X.fs := fun b hb => by
  rcases I.ok.stk with e | ⟨e, hf⟩
  · rw [e] at hb; exact List.mem_cons_of_mem _ hb
  · rw [e] at hb
    unfold frs at hb
    rw [List.filterMap_cons, hf] at hb
    exact hb
theorem Inv.stkFree (I : Inv X pins σ H s) : ∀ b ∈ frs X.stack, H b = none := fun b hb => by
  rcases List.mem_cons.mp (I.stkSub b hb) with e | hb
  · rw [e]; exact I.free
  · obtain ⟨_, o, ho, _⟩ := I.ok.funs.mem hb
    exact I.base.free b o ho (I.ok.frf b hb) fun z => I.ok.exfs b z hb

/-- THE STEP: the untracked objects but the frame and the records at ch are kept (the callers' frames up to slots), the frame's map is kept, the new abstract heap is held -/
theorem Inv.step {g' : Array GenState} {t' : Nat} {d' : Drawn} {ch : List Addr} (I : Inv X pins σ H s)
    (hch : ∀ b ∈ ch, (b ∈ X.ex ∨ X.s₀.heap.objs.size ≤ b) ∧ b ≠ X.env.locals ∧ (∀ x c, X.env.cells.lookup x = some c → c ≠ b) ∧ ∀ p ∈ X.pn ++ pins, p.1 ≠ b)
    (keep : ∀ b o, b ≠ X.env.locals → b ∉ X.fs → b ∉ ch → s.heap.get? b = some o → H b = none → h'.get? b = some o)
    (slot : ∀ b o, b ≠ X.env.locals → b ∈ X.fs → b ∉ ch → s.heap.get? b = some o → H b = none → ∃ sl, h'.get? b = some { o with slots := sl }) (free : ∀ b o, b ∉ ch → s.heap.get? b = some o → H b = none → H' b = none)
    (there : ∀ b o, b ∉ ch → s.heap.get? b = some o → ∃ o', h'.get? b = some o')
    (tups : ∀ b xs, H b = some (.tup xs) → H' b = some (.tup xs)) (frzs : ∀ b o u, H b = some (.frz o u) → H' b = some (.frz o u)) (tbls : ∀ b ps, H b = some (.tbl ps) → ∃ more, H' b = some (.tbl (ps ++ more)))
    (ns : ∀ m, s.heap.Ns X.env.locals m → h'.Ns X.env.locals m) (hok : HOk X.prog X.w H' h') (hg : AllBare g') :
    Inv X pins σ H' { s with heap := h', gens := g', drawn := d', toks := t' } := by
  have neL : ∀ b o, X.s₀.heap.get? b = some o → b ≠ X.env.locals := fun b o e => Nat.ne_of_lt (Nat.lt_of_lt_of_le (Heap.lt_size e) I.ok.above)
  have neC : ∀ b o, X.s₀.heap.get? b = some o → b ∉ X.ex → b ∉ ch := fun b o e hx hb => by
    rcases (hch b hb).1 with z | z
    · exact hx z
    · exact absurd (Nat.lt_of_lt_of_le (Heap.lt_size e) z) (Nat.lt_irrefl _)
  have cellK : ∀ x c, X.env.cells.lookup x = some c → ∀ v, s.heap.IsCell c v → h'.IsCell c v := fun x c e v ⟨o, ho, hd⟩ => by
    have nch : c ∉ ch := fun z => (hch c z).2.2.1 x c e rfl
    by_cases hc : c ∈ X.fs
    · obtain ⟨sl, q⟩ := slot c o (I.cne x c e) hc nch ho (I.freeC x c e)
      exact ⟨_, q, hd⟩
    · exact ⟨o, keep c o (I.cne x c e) hc nch ho (I.freeC x c e), hd⟩
  refine ⟨I.ok, I.os, hg, ⟨fun b o e n hb hx => ?_, fun b o e n hb hx => ?_, fun b o e n hx => ?_, fun b o e hx => ?_, fun b xs e => tups b xs (I.base.tups b xs e), fun b o xs e => frzs b o xs (I.base.frzs b o xs e), fun b ps e => ?_⟩, ?_, fun x c e => ?_, ?_, fun x c e => ?_, fun p hp => ?_, hok, I.len⟩
  · exact keep b o (neL b o e) hb (neC b o e hx) (I.base.keep b o e n hb hx) (I.base.free b o e n hx)
  · obtain ⟨sl, e1⟩ := I.base.slot b o e n hb hx
    obtain ⟨sl', e2⟩ := slot b _ (neL b o e) hb (neC b o e hx) e1 (I.base.free b o e n hx)
    exact ⟨sl', e2⟩
  · obtain ⟨o', e1⟩ := I.base.there b o e hx
    exact free b o' (neC b o e hx) e1 (I.base.free b o e n hx)
  · obtain ⟨o', e1⟩ := I.base.there b o e hx
    exact there b o' (neC b o e hx) e1
  · obtain ⟨m1, e1⟩ := I.base.tbls b ps e
    obtain ⟨m2, e2⟩ := tbls b _ e1
    exact ⟨m1 ++ m2, by rw [e2, Array.append_assoc]⟩
  · obtain ⟨m, hn, hl⟩ := I.loc
    refine ⟨m, ns m hn, fun i x v e1 e2 e3 => ?_⟩
    obtain ⟨u, r, l⟩ := hl i x v e1 e2 e3
    refine ⟨u, r, ?_⟩
    rcases l with l | ⟨k, c, e, z⟩
    · exact .inl l
    · exact .inr ⟨k, c, e, cellK x c e _ z⟩
  · obtain ⟨v, z⟩ := I.cell x c e
    exact ⟨v, cellK x c e v z⟩
  · obtain ⟨m, ⟨o, _, _, ho, _⟩, _⟩ := I.loc
    exact free _ o (fun z => (hch _ z).2.1 rfl) ho I.free
  · obtain ⟨v, o, ho, hd⟩ := I.cell x c e
    exact free c o (fun z => (hch c z).2.2.1 x c e rfl) ho (I.freeC x c e)
  · obtain ⟨e, n, ne, nf, d⟩ := I.pin p hp
    have nch : p.1 ∉ ch := fun z => (hch p.1 z).2.2.2 p hp rfl
    exact ⟨keep p.1 p.2 ne nf nch e n, free p.1 p.2 nch e n, ne, nf, d⟩
/-- .. where the frame's own object is kept too -/
theorem Inv.un {t' : Nat} (I : Inv X pins σ H s) (u : Un X.fs [] H H' s.heap h') (hok : HOk X.prog X.w H' h') : Inv X pins σ H' { s with heap := h', toks := t' } := by
  obtain ⟨m, ⟨o, es, ep, ho, r⟩, _⟩ := id I.loc
  obtain ⟨sl, hL⟩ := u.any ho I.free (by simp)
  exact I.step (g' := s.gens) (d' := s.drawn) (ch := []) (fun _ z => nomatch z) (fun b o _ hb _ e n => u.keep b o e n hb (by simp)) (fun b o _ hb _ e n => u.slot b o e n hb (by simp)) (fun b o _ e n => u.free b o e n (by simp)) (fun b o _ e => u.there b o e (by simp)) u.tups u.frzs u.tbls (fun m' hm => by
    obtain ⟨o', es', ep', ho', r'⟩ := hm
    rw [ho] at ho'; cases ho'
    exact ⟨_, es', ep', hL, r'⟩) hok I.bare
/-- behind a call (or a comprehension's block): the slots of this frame may have changed too, the records at ch may have turned -/
theorem Inv.call {g' : Array GenState} {t' : Nat} {d' : Drawn} {ch : List Addr} (I : Inv X pins σ H s) (u : Un (frs X.stack) ch H H' s.heap h') (hok : HOk X.prog X.w H' h') (hg : AllBare g')
    (hch : ∀ b ∈ ch, (b ∈ X.ex ∨ X.s₀.heap.objs.size ≤ b) ∧ b ≠ X.env.locals ∧ (∀ x c, X.env.cells.lookup x = some c → c ≠ b) ∧ ∀ p ∈ X.pn ++ pins, p.1 ≠ b) :
    Inv X pins σ H' { s with heap := h', gens := g', drawn := d', toks := t' } := by
  obtain ⟨m, ⟨o, es, ep, ho, r⟩, _⟩ := id I.loc
  obtain ⟨sl, hL⟩ := u.any ho I.free fun z => (hch _ z).2.1 rfl
  exact I.step (ch := ch) hch (fun b o hL hb hc e n => u.keep b o e n (fun z => (List.mem_cons.mp (I.stkSub b z)).elim hL hb) hc) (fun b o _ _ hc e n => u.any e n hc) (fun b o hc e n => u.free b o e n hc) (fun b o hc e => u.there b o e hc) u.tups u.frzs u.tbls (fun m' hm => by
    obtain ⟨o', es', ep', ho', r'⟩ := hm
    rw [ho] at ho'; cases ho'
    exact ⟨_, es', ep', hL, r'⟩) hok hg
/-- an untracked record of ours (an iterator) has turned -/
theorem Inv.turned {t' : Nat} {it : Addr} (I : Inv X pins σ H s) (k : ∀ b o, b ≠ it → s.heap.get? b = some o → h'.get? b = some o) (hn : H it = none) (hL : it ≠ X.env.locals)
    (h1 : it ∈ X.ex ∨ X.s₀.heap.objs.size ≤ it) (h2 : ∀ x c, X.env.cells.lookup x = some c → c ≠ it) (h3 : ∀ p ∈ X.pn ++ pins, p.1 ≠ it) : Inv X pins σ H { s with heap := h', toks := t' } := by
  have nit : ∀ b u, H b = some u → b ≠ it := fun b u e z => by rw [z, hn] at e; cases e
  refine I.step (g' := s.gens) (d' := s.drawn) (ch := [it]) (fun b hb => ?_) (fun b o _ _ hc e _ => k b o (fun z => hc (by simp [z])) e) (fun b o _ _ hc e _ => ⟨o.slots, k b o (fun z => hc (by simp [z])) e⟩) (fun _ _ _ _ n => n)
    (fun b o hc e => ⟨o, k b o (fun z => hc (by simp [z])) e⟩) (fun _ _ e => e) (fun _ _ _ e => e) (fun b ps e => ⟨#[], by rw [e]; simp⟩) (fun m hm => ?_) (fun b u e => ?_) I.bare
  · have e : b = it := by simpa using hb
    subst e
    exact ⟨h1, hL, h2, h3⟩
  · obtain ⟨o, es, ep, ho, r⟩ := hm
    exact ⟨o, es, ep, k _ o (Ne.symm hL) ho, r⟩
  · refine (I.hok b u e).stay (fun c v hc q => k c v ?_ q) (fun _ q => q) fun _ _ q => q
    rcases hc with z | z
    · rw [z]; exact nit b u e
    · exact nit c _ z
theorem Inv.tok (I : Inv X pins σ H s) (t : Nat) : Inv X pins σ H { s with toks := t } := I.un (h' := s.heap) (t' := t) Un.refl I.hok
/-- all objects kept -/
theorem Inv.kept {t' : Nat} (I : Inv X pins σ H s) (k : ∀ b u, s.heap.get? b = some u → h'.get? b = some u) : Inv X pins σ H { s with heap := h', toks := t' } := I.un (Un.kept k) (I.hok.kept k)
/-- a new object laid and tracked -/
theorem Inv.laid {a : Addr} {o : HO} {t' : Nat} (I : Inv X pins σ H s) (k : ∀ b u, s.heap.get? b = some u → h'.get? b = some u) (hp : s.heap.objs.size ≤ a) (new : ObjOk X.prog X.w (upd H a o) h' a o) :
    Inv X pins σ (upd H a o) { s with heap := h', toks := t' } := I.un (Un.laid k hp (I.hok.fresh hp)) (I.hok.laid k hp new)
/-- an object written -/
theorem Inv.write {x e : Addr} {o : HO} {t' : Nat} (I : Inv X pins σ H s) (mu : Mut (H x)) (he : e = x ∨ H e = some (.own x)) (k : ∀ b u, b ≠ e → s.heap.get? b = some u → h'.get? b = some u) (heo : ∃ u, h'.get? e = some u)
    (new : ObjOk X.prog X.w (upd H x o) h' x o) : Inv X pins σ (upd H x o) { s with heap := h', toks := t' } := I.un (Un.write mu he k heo) (I.hok.write mu he k heo new)
theorem Inv.pins_of {pins' : List (Addr × Obj)} (I : Inv X pins σ H s) (h : ∀ p ∈ pins', s.heap.get? p.1 = some p.2 ∧ H p.1 = none ∧ p.1 ≠ X.env.locals ∧ p.1 ∉ X.fs ∧ ∀ v, p.2.data ≠ .cell v) : Inv X pins' σ H s :=
  ⟨I.ok, I.os, I.bare, I.base, I.loc, I.cell, I.free, I.freeC, fun p hp => (List.mem_append.mp hp).elim (fun z => I.pin p (List.mem_append_left _ z)) (h p), I.hok, I.len⟩

theorem nodup_ix {N : List Str} (hN : N.Nodup) {i j : Nat} {x : Str} (a : N[i]? = some x) (b : N[j]? = some x) : i = j := by
  obtain ⟨h1, e1⟩ := List.getElem?_eq_some_iff.mp a
  obtain ⟨h2, e2⟩ := List.getElem?_eq_some_iff.mp b
  exact (List.getElem_inj hN).mp (e1.trans e2.symm)

/-- a name is stored; what changed -/
theorem store_ok2 {M : Model} {A : Around} {E : Value → Shared → Prop} {i : Nat} {x : Str} {v : V} {u : Value} {Q : Unit → Shared → Prop} (I : Inv X pins σ H s) (hN : X.N.Nodup) (hi : X.N[i]? = some x) (hx : Loc X.env.scope x) (r : RelV v u)
    (h : ∀ s', Inv X pins (σ.set i (some v)) H s' → (∃ a, Heap.SameBut a s.heap s'.heap ∧ (a = X.env.locals ∨ X.env.cells.lookup x = some a)) → Q () s') (hf : X.fn x = true ∨ X.env.scope.names.lookup x = some .local := by first | exact .inl rfl | exact .inr rfl | assumption) : wpAny M A (storeName X.env x u) Q E s := by
  obtain ⟨m, hn, hl⟩ := id I.loc
  have hcls : (X.env.scope.kind == .class || (X.env.scope.kind == .module && X.env.locals != X.env.globals)) = false := by rw [I.ok.kind]; rfl
  have hiσ : i < σ.length := by rw [I.len]; exact (List.getElem?_eq_some_iff.mp hi).1
  have cne := I.cne
  have tracked : ∀ {a : Addr} {h' : Heap}, (∃ o, s.heap.get? a = some o ∧ H a = none) → Heap.SameBut a s.heap h' → HOk X.prog X.w H h' := fun {a h'} ha hs b ob e => by
    obtain ⟨_, _, hfree⟩ := ha
    refine (I.hok b ob e).stay (fun c w' hc q => (hs.2 c ?_).trans q) (fun _ q => q) fun _ _ q => q
    rintro rfl
    rcases hc with rfl | hc
    · rw [hfree] at e; cases e
    · rw [hfree] at hc; cases hc
  rcases hx with hk | hk
  · refine wpAny_storeName_local hk hn (fun h' hn' hs => ?_) hcls
    obtain ⟨oL, _, _, hoL, _⟩ := id hn
    refine h _ ⟨I.ok, I.os, I.bare, ⟨fun b o e n hb hx => ?_, fun b o e n hb hx => ?_, I.base.free, fun b o e hx => ?_, I.base.tups, I.base.frzs, I.base.tbls⟩, ⟨_, hn', fun j y v' e1 e2 e3 => ?_⟩, fun y c e => ?_, I.free, I.freeC, fun p hp => ?_, tracked ⟨oL, hoL, I.free⟩ hs, by simpa using I.len⟩ ⟨_, hs, .inl rfl⟩
    · exact (hs.2 b (Nat.ne_of_lt (Nat.lt_of_lt_of_le (Heap.lt_size e) I.ok.above))).trans (I.base.keep b o e n hb hx)
    · obtain ⟨sl, e1⟩ := I.base.slot b o e n hb hx
      exact ⟨sl, (hs.2 b (Nat.ne_of_lt (Nat.lt_of_lt_of_le (Heap.lt_size e) I.ok.above))).trans e1⟩
    · obtain ⟨o', e1⟩ := I.base.there b o e hx
      exact ⟨o', (hs.2 b (Nat.ne_of_lt (Nat.lt_of_lt_of_le (Heap.lt_size e) I.ok.above))).trans e1⟩
    · by_cases hj : j = i
      · subst hj
        rw [hi] at e1; cases e1
        rw [List.getElem?_set_self hiσ] at e2
        cases e2
        exact ⟨u, r, .inl ⟨hk, by simp⟩⟩
      · rw [List.getElem?_set_ne (Ne.symm hj)] at e2
        obtain ⟨u', r', q⟩ := hl j y v' e1 e2 e3
        refine ⟨u', r', ?_⟩
        rcases q with ⟨k, e⟩ | ⟨k, c, e, z⟩
        · refine .inl ⟨k, ?_⟩
          have : y ≠ x := fun e => hj (nodup_ix hN e1 (e ▸ hi))
          simp [this, e]
        · exact .inr ⟨k, c, e, z.sameBut hs (cne y c e)⟩
    · obtain ⟨w', z⟩ := I.cell y c e
      exact ⟨w', z.sameBut hs (cne y c e)⟩
    · obtain ⟨e, n, ne, nf, d⟩ := I.pin p hp
      exact ⟨(hs.2 p.1 ne).trans e, n, ne, nf, d⟩
  · have hfn : X.fn x = true := by
      rcases hf with z | z
      · exact z
      · rw [z] at hk; cases hk
    obtain ⟨c, hc⟩ := I.ok.has x (.inl hk)
    obtain ⟨w', z⟩ := I.cell x c hc
    refine wpAny_storeName_cell I.ok.kind hk hc z (fun h' hc' hs => ?_)
    obtain ⟨oc, hoc, hocd⟩ := id z
    refine h { s with heap := h' } ⟨I.ok, I.os, I.bare, ⟨fun b o e n hb hx => ?_, fun b o e n hb hx => ?_, I.base.free, fun b o e hx => ?_, I.base.tups, I.base.frzs, I.base.tbls⟩, ⟨m, hn.sameBut hs (Ne.symm (cne x c hc)), fun j y v' e1 e2 e3 => ?_⟩, fun y c' e => ?_, I.free, I.freeC, fun p hp => ?_, tracked ⟨oc, hoc, I.freeC x c hc⟩ hs, by simpa using I.len⟩ ⟨c, hs, .inr hc⟩
    · exact (hs.2 b (Nat.ne_of_lt (Nat.lt_of_lt_of_le (Heap.lt_size e) (I.ok.cab x c hfn hc)))).trans (I.base.keep b o e n hb hx)
    · obtain ⟨sl, e1⟩ := I.base.slot b o e n hb hx
      exact ⟨sl, (hs.2 b (Nat.ne_of_lt (Nat.lt_of_lt_of_le (Heap.lt_size e) (I.ok.cab x c hfn hc)))).trans e1⟩
    · obtain ⟨o', e1⟩ := I.base.there b o e hx
      exact ⟨o', (hs.2 b (Nat.ne_of_lt (Nat.lt_of_lt_of_le (Heap.lt_size e) (I.ok.cab x c hfn hc)))).trans e1⟩
    · by_cases hj : j = i
      · subst hj
        rw [hi] at e1; cases e1
        rw [List.getElem?_set_self hiσ] at e2
        cases e2
        exact ⟨u, r, .inr ⟨.inl hk, c, hc, hc'⟩⟩
      · rw [List.getElem?_set_ne (Ne.symm hj)] at e2
        obtain ⟨u', r', q⟩ := hl j y v' e1 e2 e3
        refine ⟨u', r', ?_⟩
        rcases q with q | ⟨k, c', e, z'⟩
        · exact .inl q
        · refine .inr ⟨k, c', e, z'.sameBut hs ?_⟩
          rintro rfl
          exact hj (nodup_ix hN e1 (I.ok.inj _ _ _ e hc ▸ hi))
    · by_cases hcc : c' = c
      · subst hcc; exact ⟨_, hc'⟩
      · obtain ⟨w2, z2⟩ := I.cell y c' e
        exact ⟨w2, z2.sameBut hs hcc⟩
    · obtain ⟨e, n, ne, nf, d⟩ := I.pin p hp
      refine ⟨(hs.2 p.1 ?_).trans e, n, ne, nf, d⟩
      intro q
      rw [q, hoc] at e
      have q' : oc = p.2 := Option.some.inj e
      exact d w' (by rw [← q']; exact hocd)
theorem store_ok {M : Model} {A : Around} {E : Value → Shared → Prop} {i : Nat} {x : Str} {v : V} {u : Value} {Q : Unit → Shared → Prop} (I : Inv X pins σ H s) (hN : X.N.Nodup) (hi : X.N[i]? = some x) (hx : Loc X.env.scope x) (r : RelV v u)
    (h : ∀ s', Inv X pins (σ.set i (some v)) H s' → Q () s') (hf : X.fn x = true ∨ X.env.scope.names.lookup x = some .local := by first | exact .inl rfl | exact .inr rfl | assumption) : wpAny M A (storeName X.env x u) Q E s :=
  store_ok2 I hN hi hx r (fun s' I' _ => h s' I') hf
/-- behind a call or a block, the state as it is -/
theorem Inv.call' {s' : Shared} {ch : List Addr} (I : Inv X pins σ H s) (ho : s'.os = s.os) (u : Un (frs X.stack) ch H H' s.heap s'.heap) (hok : HOk X.prog X.w H' s'.heap) (hg : AllBare s'.gens)
    (hch : ∀ b ∈ ch, (b ∈ X.ex ∨ X.s₀.heap.objs.size ≤ b) ∧ b ≠ X.env.locals ∧ (∀ x c, X.env.cells.lookup x = some c → c ≠ b) ∧ ∀ p ∈ X.pn ++ pins, p.1 ≠ b) : Inv X pins σ H' s' := by
  obtain ⟨h', g', d', t', o'⟩ := s'
  have e : o' = s.os := ho
  subst e
  exact I.call (g' := g') (t' := t') (d' := d') u hok hg hch
end

/-! ### the judgements -/
/-- an exception: its class, its own dict's address (where it has one), the abstract heap behind it -/
abbrev XK := Value → Option Addr → Hp → Prop
abbrev St := List (Option V)
abbrev VK := V → Hp → Prop
/-- an expression's reading; a test's; an argument list's -/
abbrev TE := St → Hp → VK → Prop
abbrev TT := St → Hp → (Bool → Hp → Prop) → Prop
abbrev TA := St → Hp → (List V → Hp → Prop) → Prop
/-- what is wanted behind a statement -/
structure Ends where
  nx : St → Hp → Prop
  rt : VK
  bk : St → Hp → Prop := fun _ _ => False
  ct : St → Hp → Prop := fun _ _ => False
abbrev TS := Ends → St → Hp → Prop

def EP (X : Cx) (pins : List (Addr × Obj)) (σ : St) (Q : VK) (u : Value) (s' : Shared) : Prop := ∃ v H', Inv X pins σ H' s' ∧ RelV v u ∧ Q v H'
def TP (X : Cx) (pins : List (Addr × Obj)) (σ : St) (Q : Bool → Hp → Prop) (b : Bool) (s' : Shared) : Prop := ∃ H', Inv X pins σ H' s' ∧ Q b H'
def AP (X : Cx) (pins : List (Addr × Obj)) (σ : St) (Q : List V → Hp → Prop) (us : List Value) (s' : Shared) : Prop := ∃ vs H', Inv X pins σ H' s' ∧ Vals vs us ∧ Q vs H'
def SP (X : Cx) (pins : List (Addr × Obj)) (D : Ends) (f : Flow) (s' : Shared) : Prop :=
  match f with
  | .next => ∃ σ' H', Inv X pins σ' H' s' ∧ D.nx σ' H'
  | .brk => ∃ σ' H', Inv X pins σ' H' s' ∧ D.bk σ' H'
  | .cont => ∃ σ' H', Inv X pins σ' H' s' ∧ D.ct σ' H'
  | .ret u => ∃ v σ' H', Inv X pins σ' H' s' ∧ RelV v u ∧ D.rt v H'

def PE (X : Cx) (e : Expr) (t : TE) : Prop :=
  ∀ (pins : List (Addr × Obj)) (s : Shared) (σ : St) (H : Hp) (Q : VK), Inv X pins σ H s → t σ H Q → wpAny (model X.prog X.w) X.A (eval e X.env) (EP X pins σ Q) X.xe s
def PT (X : Cx) (e : Expr) (t : TT) : Prop :=
  ∀ (pins : List (Addr × Obj)) (s : Shared) (σ : St) (H : Hp) (Q : Bool → Hp → Prop), Inv X pins σ H s → t σ H Q → wpAny (model X.prog X.w) X.A (isTrue e X.env (eval e X.env)) (TP X pins σ Q) X.xe s
/-- a test whatever its 'whole' is (and, or) -/
def PW (X : Cx) (e : Expr) (t : TT) : Prop :=
  ∀ (whole : Sem Value) (pins : List (Addr × Obj)) (s : Shared) (σ : St) (H : Hp) (Q : Bool → Hp → Prop), Inv X pins σ H s → t σ H Q → wpAny (model X.prog X.w) X.A (isTrue e X.env whole) (TP X pins σ Q) X.xe s
theorem PW.pt {X : Cx} {e : Expr} {t : TT} (h : PW X e t) : PT X e t := h _
/-- an argument list (no star), from the left -/
def PA (X : Cx) (es : List Expr) (t : TA) : Prop :=
  ∀ (pos : Pos) (pins : List (Addr × Obj)) (s : Shared) (σ : St) (H : Hp) (Q : List V → Hp → Prop), Inv X pins σ H s → t σ H Q → wpAny (model X.prog X.w) X.A (spliced (backTo pos (starEach es X.env))) (AP X pins σ Q) X.xe s
def PS (X : Cx) (st : Stmt) (t : TS) : Prop :=
  ∀ (pins : List (Addr × Obj)) (s : Shared) (σ : St) (H : Hp) (D : Ends), Inv X pins σ H s → t D σ H → wpAny (model X.prog X.w) X.A (exec st X.env) (SP X pins D) X.xe s
def PSs (X : Cx) (st : List Stmt) (t : TS) : Prop :=
  ∀ (pins : List (Addr × Obj)) (s : Shared) (σ : St) (H : Hp) (D : Ends), Inv X pins σ H s → t D σ H → wpAny (model X.prog X.w) X.A (execs st X.env) (SP X pins D) X.xe s
/-- weaken the end -/
theorem thn {α : Type} {t : Sem α} {Q Q' : α → Shared → Prop} {M : Model} {A : Around} {E : Value → Shared → Prop} {s : Shared} (h : wpAny M A t Q E s) (hQ : ∀ a s, Q a s → Q' a s) : wpAny M A t Q' E s := wpAny_mono h hQ fun _ _ x => x
end L2

namespace L2
open PySem PySem.Spec PyProof.Rows
section
variable {X : Cx}

/-- two expressions in a row -/
theorem bin {a b : Expr} {ta tb : TE} (ha : PE X a ta) (hb : PE X b tb) {pins : List (Addr × Obj)} {s : Shared} {σ : St} {H : Hp} {R : V → V → Hp → Prop} (I : Inv X pins σ H s) (h : ta σ H fun x H1 => tb σ H1 fun y H2 => R x y H2)
    {α : Type} {Q : α → Shared → Prop} {f : Value → Value → Sem α}
    (hf : ∀ v u s2 x y H2, Inv X pins σ H2 s2 → RelV x v → RelV y u → R x y H2 → wpAny (model X.prog X.w) X.A (f v u) Q X.xe s2) :
    wpAny (model X.prog X.w) X.A (eval a X.env) (fun v s₁ => wpAny (model X.prog X.w) X.A (eval b X.env) (fun u s₂ => wpAny (model X.prog X.w) X.A (f v u) Q X.xe s₂) X.xe s₁) X.xe s := by
  refine thn (ha pins s σ H _ I h) fun v s1 ⟨x, H1, I1, r1, q1⟩ => ?_
  refine thn (hb pins s1 σ H1 _ I1 q1) fun u s2 ⟨y, H2, I2, r2, q2⟩ => ?_
  exact hf v u s2 x y H2 I2 r1 r2 q2

/-! ### names and constants -/
inductive tVar (i : Nat) (σ : St) (H : Hp) (Q : VK) : Prop
  | mk (v : _) (_ : σ[i]? = some (some v)) (_ : Q v H) : tVar i σ H Q
def tC (v : V) : TE := fun _ H Q => Q v H
theorem pe_var {i : Nat} {x : Str} {pos : Pos} (hN : X.N[i]? = some x) (hv : Vis X.env.scope x) (hd : (x == ("__debug__" : Str)) = false := by decide) (hcd : (x == ("__classdict__" : Str)) = false := by decide) : PE X (.Name x pos) (tVar i) := by
  intro pins s σ H Q I h
  obtain ⟨v, e, h⟩ := h
  obtain ⟨m, hn, hl⟩ := I.loc
  obtain ⟨u, r, l⟩ := hl i x v hN e hv
  have fin : EP X pins σ Q u s := ⟨v, H, I, r, h⟩
  rcases l with ⟨hk, hm⟩ | ⟨hk, c, hc, hcell⟩
  · exact wpAny_Name (wpAny_loadName_local I.ok.kind hk hn hm fin) hd
  · rcases hk with hk | hk
    · exact wpAny_Name (wpAny_loadName_cell I.ok.kind hk hc hcell fin) hd
    · exact wpAny_Name (wpAny_loadName_free I.ok.kind hk hc hcell fin hcd) hd
theorem pe_int {i j pos} : PE X (.Constant (.int i) j pos) (tC (.int i)) := fun _ _ _ H _ I h => wpAny_Constant_int ⟨.int i, H, I.tok _, ⟨_, rfl⟩, h⟩
theorem pe_bl {b j pos} : PE X (.Constant (.bool b) j pos) (tC (.bl b)) := fun _ _ _ H _ I h => Constant_bool ⟨.bl b, H, I, rfl, h⟩
theorem pe_non {j pos} : PE X (.Constant .none j pos) (tC .non) := fun _ _ _ H _ I h => Constant_none ⟨.non, H, I, rfl, h⟩
theorem pe_str {x j pos} : PE X (.Constant (.str x) j pos) (tC (.str x)) := fun _ _ _ H _ I h => Calls.Constant_str ⟨.str x, H, I.tok _, ⟨_, rfl⟩, h⟩

/-- a global name of the def -/
def Gl (X : Cx) (x : Str) : Prop := X.env.kindOf x = some .globalImplicit
theorem ld_glob {E : Value → Shared → Prop} {pins : List (Addr × Obj)} {s : Shared} {σ : St} {H : Hp} {x : Str} {u : Value} {pos : Pos} {Q : Value → Shared → Prop} (I : Inv X pins σ H s) (hg : Gl X x) (hm : X.mg x = some u) (h : Q u s)
    (hd : (x == ("__debug__" : Str)) = false := by decide) : wpAny (model X.prog X.w) X.A (eval (.Name x pos) X.env) Q E s :=
  Calls.Name_function_global I.ok.kind hg (Calls.loadGlobal_global (by rw [I.ok.glob]; exact I.mod.glob.keeps I.bk) hm h) hd
theorem ld_blt {E : Value → Shared → Prop} {pins : List (Addr × Obj)} {s : Shared} {σ : St} {H : Hp} {x : Str} {u : Value} {pos : Pos} {Q : Value → Shared → Prop} (I : Inv X pins σ H s) (hg : Gl X x) (hm : X.mg x = none) (hv : bootBuiltins x = some u) (h : Q u s)
    (hn : x ≠ "__name__" := by decide) (hd : (x == ("__debug__" : Str)) = false := by decide) : wpAny (model X.prog X.w) X.A (eval (.Name x pos) X.env) Q E s := by
  obtain ⟨mb, h1, h2⟩ := I.mod.blt
  exact Calls.Name_function_global I.ok.kind hg (Calls.loadGlobal_builtin (by rw [I.ok.glob]; exact I.mod.glob.keeps I.bk) hm (by rw [I.ok.blt]; exact h1.keeps I.bk) ((h2 x hn).trans hv) h) hd
/-- a module's constant, a class, a function, as a value -/
theorem pe_glob {x : Str} {v : V} {u : Value} {pos : Pos} (hg : Gl X x) (hm : X.mg x = some u) (r : RelV v u) (hd : (x == ("__debug__" : Str)) = false := by decide) : PE X (.Name x pos) (tC v) :=
  fun _ _ _ H _ I h => ld_glob I hg hm ⟨v, H, I, r, h⟩ hd
theorem pe_bltn {x : Str} {v : V} {u : Value} {pos : Pos} (hg : Gl X x) (hm : X.mg x = none) (hv : bootBuiltins x = some u) (r : RelV v u) (hn : x ≠ "__name__" := by decide) (hd : (x == ("__debug__" : Str)) = false := by decide) : PE X (.Name x pos) (tC v) :=
  fun _ _ _ H _ I h => ld_blt I hg hm hv ⟨v, H, I, r, h⟩ hn hd

/-! ### arithmetic -/
variable {a b : Expr} {ta tb : TE} {pos : Pos}
/-! ### comparisons -/
def PC (X : Cx) (op : CmpOp) (a b : Expr) (t : TE) : Prop :=
  ∀ (pins : List (Addr × Obj)) (s : Shared) (σ : St) (H : Hp) (Q : VK), Inv X pins σ H s → t σ H Q →
    wpAny (model X.prog X.w) X.A (eval a X.env) (fun v s₁ => wpAny (model X.prog X.w) X.A (eval b X.env) (fun u s₂ => wpAny (model X.prog X.w) X.A (compareOp op v u) (EP X pins σ Q) X.xe s₂) X.xe s₁) X.xe s
theorem nobehind (b : Expr) {op : CmpOp} (h : op ≠ .In) (h2 : op ≠ .NotIn) : behindInMarks op b = false := by
  have e1 : (op == CmpOp.In) = false := by cases op <;> first | rfl | exact absurd rfl h
  have e2 : (op == CmpOp.NotIn) = false := by cases op <;> first | rfl | exact absurd rfl h2
  cases b <;> simp [behindInMarks, e1, e2]
/-- is None -/
def tIsN (ta : TE) : TE := fun σ H Q => ta σ H fun x H1 => Q (.bl (decide (x = .non))) H1
def tNotN (ta : TE) : TE := fun σ H Q => ta σ H fun x H1 => Q (.bl (!decide (x = .non))) H1
theorem RelV.none_iff {x : V} {v : Value} (r : RelV x v) : (v == Value.none) = decide (x = .non) := by
  cases x with
  | non => cases r; rfl
  | bl _ => cases r; rfl
  | int _ => obtain ⟨t, rfl⟩ := r; rfl
  | str _ => obtain ⟨t, rfl⟩ := r; rfl
  | byt _ => obtain ⟨t, rfl⟩ := r; rfl
  | flt _ => obtain ⟨t, rfl⟩ := r; rfl
  | ref _ => cases r; rfl
  | ty _ => cases r; rfl
theorem pc_isN {j pos'} (ha : PE X a ta) : PC X .Is a (.Constant .none j pos') (tIsN ta) := by
  intro pins s σ H Q I h
  refine thn (ha pins s σ H _ I h) fun v s1 ⟨x, H1, I1, r1, q1⟩ => ?_
  exact Constant_none (is_none_gen ⟨.bl _, H1, I1, by rw [r1.none_iff]; rfl, q1⟩)
theorem pc_notN {j pos'} (ha : PE X a ta) : PC X .IsNot a (.Constant .none j pos') (tNotN ta) := by
  intro pins s σ H Q I h
  refine thn (ha pins s σ H _ I h) fun v s1 ⟨x, H1, I1, r1, q1⟩ => ?_
  exact Constant_none (isnot_none_gen ⟨.bl _, H1, I1, by rw [r1.none_iff]; rfl, q1⟩)
/-- a comparison as a value, as a test -/
inductive isBl (x : V) (H : Hp) (Q : Bool → Hp → Prop) : Prop
  | mk (c : Bool) (_ : x = .bl c) (_ : Q c H) : isBl x H Q
def tB (t : TE) : TT := fun σ H Q => t σ H fun x H1 => isBl x H1 Q
theorem pe_cmp {op : CmpOp} {t : TE} (h : PC X op a b t) (h1 : behindInMarks op b = false := by first | exact nobehind _ (by decide) (by decide) | rfl) : PE X (.Compare a [op] [b] pos) t := fun pins s σ H Q I hw => wpAny_Compare1 (h pins s σ H Q I hw) h1
theorem pt_cmp {op : CmpOp} {t : TE} (h : PC X op a b t) (h1 : behindInMarks op b = false := by first | exact nobehind _ (by decide) (by decide) | rfl) : PT X (.Compare a [op] [b] pos) (tB t) := by
  intro pins s σ H Q I hw
  refine wpAny_isTrue_Compare1 (thn (h pins s σ H _ I hw) fun v s1 h1 => thn h1 fun u s2 h2 => thn h2 fun c s3 ⟨x, H1, I1, r1, q1⟩ => ?_) h1
  obtain ⟨d, rfl, q⟩ := q1
  cases r1
  exact wpAny_truthy_bool ⟨H1, I1, q⟩
/-- an expression whose value is a bool, as a test -/
theorem pt_val {e : Expr} {t : TE} (h : PE X e t) (he : ∀ whole, isTrue e X.env whole = (do let v ← whole; standAt e.pos; holding [v] (truthy v)) := by intro _; rfl) : PT X e (tB t) := by
  intro pins s σ H Q I hw
  refine isTrue_plain (thn (h pins s σ H _ I hw) fun v s1 ⟨x, H1, I1, r1, q1⟩ => ?_) (he _)
  obtain ⟨d, rfl, q⟩ := q1
  cases r1
  exact wpAny_truthy_bool ⟨H1, I1, q⟩

/-! ### and, or, not -/
variable {tA tB' : TT} {rest : List Expr}
def tAnd (t u : TT) : TT := fun σ H Q => t σ H fun c H1 => if c = true then u σ H1 Q else Q false H1
def tOr (t u : TT) : TT := fun σ H Q => t σ H fun c H1 => if c = true then Q true H1 else u σ H1 Q
def tNot (t : TT) : TT := fun σ H Q => t σ H fun c H1 => Q (!c) H1
theorem pw_and1 (ha : PT X a tA) : PW X (.BoolOp .And [a] pos) tA := by
  intro wh pins s σ H Q I h
  refine isTrue_and (thn (ha pins s σ H Q I h) fun c s1 e => ?_)
  cases c with
  | true => exact isTrue_and_nil e
  | false => exact e
theorem pw_or1 (ha : PT X a tA) : PW X (.BoolOp .Or [a] pos) tA := by
  intro wh pins s σ H Q I h
  refine isTrue_or (thn (ha pins s σ H Q I h) fun c s1 e => ?_)
  cases c with
  | false => exact isTrue_or_nil e
  | true => exact e
theorem pw_and (ha : PT X a tA) (hb : PW X (.BoolOp .And (b :: rest) pos) tB') : PW X (.BoolOp .And (a :: b :: rest) pos) (tAnd tA tB') := by
  intro wh pins s σ H Q I h
  refine isTrue_and (thn (ha pins s σ H _ I h) fun c s1 ⟨H1, I1, q1⟩ => ?_)
  cases c with
  | true => exact hb wh pins s1 σ H1 Q I1 q1
  | false => exact ⟨H1, I1, q1⟩
theorem pw_or (ha : PT X a tA) (hb : PW X (.BoolOp .Or (b :: rest) pos) tB') : PW X (.BoolOp .Or (a :: b :: rest) pos) (tOr tA tB') := by
  intro wh pins s σ H Q I h
  refine isTrue_or (thn (ha pins s σ H _ I h) fun c s1 ⟨H1, I1, q1⟩ => ?_)
  cases c with
  | true => exact ⟨H1, I1, q1⟩
  | false => exact hb wh pins s1 σ H1 Q I1 q1
theorem pt_not (ha : PT X a tA) : PT X (.UnaryOp .Not a pos) (tNot tA) := by
  intro pins s σ H Q I h
  exact isTrue_not (ha pins s σ H (fun c H1 => Q (!c) H1) I h)
/-- .. as values (bools) -/
def tAndV (ta tb : TE) : TE := fun σ H Q => ta σ H fun x H1 => ∃ c, x = .bl c ∧ if c = true then tb σ H1 Q else Q (.bl false) H1
def tOrV (ta tb : TE) : TE := fun σ H Q => ta σ H fun x H1 => ∃ c, x = .bl c ∧ if c = true then Q (.bl true) H1 else tb σ H1 Q
def tNotV (ta : TE) : TE := fun σ H Q => ta σ H fun x H1 => ∃ c, x = .bl c ∧ Q (.bl (!c)) H1
theorem pe_one {op} {t : TE} (h : PE X a t) : PE X (.BoolOp op [a] pos) t := fun pins s σ H Q I hw => BoolOp_one (h pins s σ H Q I hw)
theorem pe_and (ha : PE X a ta) (hb : PE X (.BoolOp .And (b :: rest) pos) tb) : PE X (.BoolOp .And (a :: b :: rest) pos) (tAndV ta tb) := by
  intro pins s σ H Q I h
  refine BoolOp_and (thn (ha pins s σ H _ I h) fun v s1 ⟨x, H1, I1, r1, q1⟩ => ?_)
  obtain ⟨c, rfl, q1⟩ := q1
  cases r1
  refine wpAny_truthy_bool ?_
  cases c with
  | true => exact hb pins s1 σ H1 Q I1 q1
  | false => exact ⟨.bl false, H1, I1, rfl, q1⟩
theorem pe_or (ha : PE X a ta) (hb : PE X (.BoolOp .Or (b :: rest) pos) tb) : PE X (.BoolOp .Or (a :: b :: rest) pos) (tOrV ta tb) := by
  intro pins s σ H Q I h
  refine BoolOp_or (thn (ha pins s σ H _ I h) fun v s1 ⟨x, H1, I1, r1, q1⟩ => ?_)
  obtain ⟨c, rfl, q1⟩ := q1
  cases r1
  refine wpAny_truthy_bool ?_
  cases c with
  | false => exact hb pins s1 σ H1 Q I1 q1
  | true => exact ⟨.bl true, H1, I1, rfl, q1⟩
theorem pe_not (ha : PE X a ta) : PE X (.UnaryOp .Not a pos) (tNotV ta) := by
  intro pins s σ H Q I h
  refine UnaryOp_ (thn (ha pins s σ H _ I h) fun v s1 ⟨x, H1, I1, r1, q1⟩ => ?_)
  obtain ⟨c, rfl, q1⟩ := q1
  cases r1
  exact not_of (wpAny_truthy_bool ⟨.bl (!c), H1, I1, rfl, q1⟩)
/-- a if t else b -/
def tIf (t : TT) (ta tb : TE) : TE := fun σ H Q => t σ H fun c H1 => if c = true then ta σ H1 Q else tb σ H1 Q
theorem pe_ifExp {c : Expr} (hc : PT X c tA) (ha : PE X a ta) (hb : PE X b tb) : PE X (.IfExp c a b pos) (tIf tA ta tb) := by
  intro pins s σ H Q I h
  refine wpAny_IfExp (thn (hc pins s σ H _ I h) fun d s1 ⟨H1, I1, q1⟩ => ?_)
  cases d with
  | true => exact ha pins s1 σ H1 Q I1 q1
  | false => exact hb pins s1 σ H1 Q I1 q1
end
end L2

namespace L2
open PySem PySem.Spec PyProof.Rows

/-! ### a list, a tuple that is read: tracked, frozen, or an object of the module -/
def SqL (K : PySem.W.Frag) (H : Hp) (a : Addr) (xs : List V) : Prop :=
  Rd H a (.lst xs) ∨
    ∃ (o : Obj) (its : Array Value) (n : Nat), K.lookup a = some o ∧ o.cls = .type "list" ∧ o.dict = none ∧ o.data = .seq its n ∧ its.size ≤ sizeLine ∧ Vals xs its.toList
def SqT (K : PySem.W.Frag) (H : Hp) (a : Addr) (xs : List V) : Prop :=
  Rd H a (.tup xs) ∨
    ∃ (o : Obj) (its : Array Value) (n : Nat), K.lookup a = some o ∧ o.cls = .type "tuple" ∧ o.data = .seq its n ∧ its.size ≤ sizeLine ∧ Vals xs its.toList
def absV : Value → Option V
  | .none => some .non
  | .bool b => some (.bl b)
  | .int i _ => some (.int i)
  | .str x _ => some (.str x)
  | .bytes b _ => some (.byt b)
  | .float b _ => some (.flt b)
  | .ref a => some (.ref a)
  | .type n => some (.ty n)
  | _ => none
theorem RelV.abs {x : V} {u : Value} (r : RelV x u) : absV u = some x := by
  cases x with
  | non => cases r; rfl
  | bl _ => cases r; rfl
  | int _ => obtain ⟨t, rfl⟩ := r; rfl
  | str _ => obtain ⟨t, rfl⟩ := r; rfl
  | byt _ => obtain ⟨t, rfl⟩ := r; rfl
  | flt _ => obtain ⟨t, rfl⟩ := r; rfl
  | ref _ => cases r; rfl
  | ty _ => cases r; rfl
theorem RelV.inj {x y : V} {u : Value} (r : RelV x u) (q : RelV y u) : x = y := Option.some.inj (r.abs.symm.trans q.abs)
theorem Vals.inj : ∀ {xs ys : List V} {us : List Value}, Vals xs us → Vals ys us → xs = ys
  | _, _, _, .nil, .nil => rfl
  | _, _, _, .cons r t, .cons r' t' => by rw [r.inj r', Vals.inj t t']
section
variable {X : Cx} {pins : List (Addr × Obj)} {σ : St} {H : Hp} {s : Shared} {a : Addr} {xs ys : List V}
theorem SqL.of {K : PySem.W.Frag} (h : H a = some (.lst xs)) : SqL K H a xs := .inl (.inl h)
theorem SqT.of {K : PySem.W.Frag} (h : H a = some (.tup xs)) : SqT K H a xs := .inl (.inl h)
theorem Inv.list (I : Inv X pins σ H s) (h : SqL X.K H a xs) : ∃ its : List Value, Vals xs its ∧ PlainL s.heap a its.toArray ∧ xs.length ≤ sizeLine := by
  rcases h with h | ⟨o, its, n, hk, hc, hd, hs, hz, r⟩
  · obtain ⟨z, its, n, r, e⟩ := h.ok I.hok
    exact ⟨its, r, ⟨_, n, e, rfl, rfl, rfl⟩, z⟩
  · refine ⟨its.toList, r, ⟨o, n, I.kIn a o hk, hc, hd, by simpa using hs⟩, ?_⟩
    have e := r.length
    simp only [Array.length_toList] at e
    omega
theorem Inv.tuple (I : Inv X pins σ H s) (h : SqT X.K H a xs) : ∃ its : List Value, Vals xs its ∧ IsTup s.heap a its.toArray ∧ xs.length ≤ sizeLine := by
  rcases h with h | ⟨o, its, n, hk, hc, hs, hz, r⟩
  · obtain ⟨z, its, r, p⟩ := h.ok I.hok
    exact ⟨its, r, p, z⟩
  · refine ⟨its.toList, r, ⟨o, I.kIn a o hk, hc, n, by simpa using hs⟩, ?_⟩
    have e := r.length
    simp only [Array.length_toList] at e
    omega
theorem Inv.list_inj (I : Inv X pins σ H s) (h : SqL X.K H a xs) (h' : SqL X.K H a ys) : xs = ys := by
  obtain ⟨its, r, ⟨o, n, e, _, _, d⟩, _⟩ := I.list h
  obtain ⟨its', r', ⟨o', n', e', _, _, d'⟩, _⟩ := I.list h'
  rw [e] at e'; cases e'
  rw [d] at d'
  injection d' with d1 _
  have : its = its' := by simpa using congrArg Array.toList d1
  subst this
  exact r.inj r'
end

/-! ### another wish about exceptions -/
abbrev Cx.wish (X : Cx) (E : Value → Shared → Prop) : Cx := { X with xe := E }
section
variable {X : Cx} {pins : List (Addr × Obj)} {σ : St} {H : Hp} {s : Shared} {E : Value → Shared → Prop}
end

/-! ### blocks and small statements -/
section
variable {X : Cx} {st : Stmt} {rest : List Stmt} {t u : TS} {e : Expr} {te : TE} {pos : Pos}
def tNext : TS := fun D σ H => D.nx σ H
def tSeq (t u : TS) : TS := fun D σ H => t { D with nx := u D } σ H
theorem pss_nil : PSs X [] tNext := fun _ _ σ H _ I h => wpAny_execs_nil ⟨σ, H, I, h⟩
theorem pss_cons (h1 : PS X st t) (h2 : PSs X rest u) : PSs X (st :: rest) (tSeq t u) := by
  intro pins s σ H D I h
  refine wpAny_execs_cons (thn (h1 pins s σ H { D with nx := u D } I h) fun f s1 q => ?_)
  cases f with
  | next =>
    obtain ⟨σ', H', I', q⟩ := q
    exact h2 pins s1 σ' H' D I' q
  | ret v => exact q
  | brk => exact q
  | cont => exact q
theorem pss_one (h1 : PS X st t) : PSs X [st] t := by
  intro pins s σ H D I h
  refine wpAny_execs_cons (thn (h1 pins s σ H D I h) fun f s1 q => ?_)
  cases f with
  | next => exact wpAny_execs_nil q
  | ret v => exact q
  | brk => exact q
  | cont => exact q
/-- in a def's body nothing is shown -/
theorem Inv.quiet {pins : List (Addr × Obj)} {σ : St} {H : Hp} {s : Shared} (I : Inv X pins σ H s) : interactive X.env = false := by simp [interactive, I.ok.kind]
/-- an expression whose value is dropped -/
def tDrop (te : TE) : TS := fun D σ H => te σ H fun _ H1 => D.nx σ H1
theorem ps_expr (he : PE X e te) (hs : swapsWith e none pos.line X.env = pure false := by rfl) : PS X (.Expr e pos) (tDrop te) := by
  intro pins s σ H D I h
  exact wpAny_Expr_any (thn (he pins s σ H _ I h) fun v s1 ⟨x, H1, I1, r1, q1⟩ => ⟨σ, H1, I1, q1⟩) I.quiet hs
def tRet (te : TE) : TS := fun D σ H => te σ H D.rt
theorem ps_ret (he : PE X e te) : PS X (.Return (some e) pos) (tRet te) := by
  intro pins s σ H D I h
  exact wpAny_Return_some (thn (he pins s σ H _ I h) fun v s1 ⟨x, H1, I1, r1, q1⟩ => ⟨x, σ, H1, I1, r1, q1⟩)
def tIfS (c : TT) (t u : TS) : TS := fun D σ H => c σ H fun b H1 => if b = true then t D σ H1 else u D σ H1
theorem ps_if {c : Expr} {a b : List Stmt} {tc : TT} (hc : PT X c tc) (ha : PSs X a t) (hb : PSs X b u) : PS X (.If c a b pos) (tIfS tc t u) := by
  intro pins s σ H D I h
  refine wpAny_If (thn (hc pins s σ H _ I h) fun d s1 ⟨H1, I1, q1⟩ => ?_)
  cases d with
  | true => exact ha pins s1 σ H1 D I1 q1
  | false => exact hb pins s1 σ H1 D I1 q1
end

/-! ### targets -/
abbrev TG := V → St → Hp → (St → Hp → Prop) → Prop
abbrev TGs := List V → St → Hp → (St → Hp → Prop) → Prop
def PG (X : Cx) (target : Expr) (t : TG) : Prop :=
  ∀ (pins : List (Addr × Obj)) (s : Shared) (σ : St) (H : Hp) (v : V) (u : Value) (Q : St → Hp → Prop), Inv X pins σ H s → RelV v u → t v σ H Q →
    wpAny (model X.prog X.w) X.A (assign target X.env u) (fun _ s' => ∃ σ' H', Inv X pins σ' H' s' ∧ Q σ' H') X.xe s
/-- several targets, one after another -/
def PGs (X : Cx) (ts : List Expr) (t : TGs) : Prop :=
  ∀ (pins : List (Addr × Obj)) (s : Shared) (σ : St) (H : Hp) (vs : List V) (us : List Value) (Q : St → Hp → Prop), Inv X pins σ H s → Vals vs us → t vs σ H Q →
    wpAny (model X.prog X.w) X.A (assignInOrder ((assignEach ts X.env).map (·.2)) us) (fun _ s' => ∃ σ' H', Inv X pins σ' H' s' ∧ Q σ' H') X.xe s
/-- o[i] = v, by values -/
abbrev TSet := V → V → V → Hp → (Hp → Prop) → Prop
def PSet (X : Cx) (t : TSet) : Prop :=
  ∀ (pins : List (Addr × Obj)) (s : Shared) (σ : St) (H : Hp) (o i v : V) (ov iv u : Value) (Q : Hp → Prop), Inv X pins σ H s → RelV o ov → RelV i iv → RelV v u → t o i v H Q →
    wpAny (model X.prog X.w) X.A (setItem ov iv u) (fun _ s' => ∃ H', Inv X pins σ H' s' ∧ Q H') X.xe s
section
variable {X : Cx} {pos : Pos}
def gName (i : Nat) : TG := fun v σ H Q => Q (σ.set i (some v)) H
theorem pg_name {i : Nat} {x : Str} (hN : X.N.Nodup) (hi : X.N[i]? = some x) (hx : Loc X.env.scope x) (hf : X.fn x = true ∨ X.env.scope.names.lookup x = some .local := by first | exact .inl rfl | exact .inr rfl | assumption) : PG X (.Name x pos) (gName i) := by
  intro pins s σ H v u Q I r h
  exact wpAny_assign_Name (store_ok I hN hi hx r (fun s' I' => ⟨_, H, I', h⟩) hf)
def gNil : TGs := fun vs σ H Q => vs = [] ∧ Q σ H
def gCons (t : TG) (u : TGs) : TGs := fun vs σ H Q => ∃ v r, vs = v :: r ∧ t v σ H fun σ' H' => u r σ' H' Q
theorem pgs_nil : PGs X [] gNil := by
  intro pins s σ H vs us Q I r h
  obtain ⟨e, h⟩ := h
  subst e
  cases r
  exact assignInOrder_nil ⟨σ, H, I, h⟩
theorem pgs_cons {e : Expr} {es : List Expr} {t : TG} {u : TGs} (h1 : PG X e t) (h2 : PGs X es u)
    (hs : (assignEach (e :: es) X.env).map (·.2) = assign e X.env :: (assignEach es X.env).map (·.2) := by rfl) : PGs X (e :: es) (gCons t u) := by
  intro pins s σ H vs us Q I r h
  obtain ⟨v, vr, e1, h⟩ := h
  subst e1
  cases r with
  | cons r rr =>
    rw [hs]
    refine assignInOrder_cons (thn (h1 pins s σ H _ _ _ I r h) fun _ s1 ⟨σ1, H1, I1, q1⟩ => ?_)
    exact h2 pins s1 σ1 H1 _ _ Q I1 rr q1
/-- (a, b, ..) = a tuple of that length -/
inductive gTup (K : PySem.W.Frag) (n : Nat) (t : TGs) (v : V) (σ : St) (H : Hp) (Q : St → Hp → Prop) : Prop
  | mk (a : _) (xs : _) (_ : v = .ref a) (_ : SqT K H a xs) (_ : xs.length = n) (_ : t xs σ H Q) : gTup K n t v σ H Q
theorem pg_tup {es : List Expr} {k : Nat} {t : TGs} {n : Nat} (hc : X.calm = true) (h : PGs X es t)
    (hn : (assignEach es X.env).length = n := by rfl) (hst : (assignEach es X.env).findIdx? (·.1) = none := by rfl) : PG X (.Tuple es k pos) (gTup X.K n t) := by
  intro pins s σ H v u Q I r hw
  obtain ⟨a, xs, e1, hq, hl, hw⟩ := hw
  subst e1
  cases r
  obtain ⟨its, rv, ht, hz⟩ := I.tuple hq
  refine assign_Tuple_tuple (I.ok.hd hc) ht (by simp [hn, ← hl, rv.length]) hst fun h' hx => ?_
  have I1 : Inv X pins σ H { s with heap := h' } := I.kept (t' := s.toks) fun b o e => hx b o (Nat.ne_of_lt (Heap.lt_size e)) e
  exact h pins _ σ H xs _ Q I1 (by simpa using rv) hw
/-- o[i] = .. -/
def gSub (to ti : TE) (t : TSet) : TG := fun v σ H Q => to σ H fun o H1 => ti σ H1 fun i H2 => t o i v H2 fun H3 => Q σ H3
theorem pg_sub {o i : Expr} {to ti : TE} {t : TSet} (ho : PE X o to) (hi : PE X i ti) (hs : PSet X t)
    (ha : ∀ v, assign (.Subscript o i pos) X.env v = (do
      let ov ← holding [v] (eval o X.env)
      let iv ← holding [v, ov] (eval i X.env)
      standAt pos
      holding [v, ov, iv] (setItem ov iv v)
      release [v, ov, iv] []) := by intro _; rfl) : PG X (.Subscript o i pos) (gSub to ti t) := by
  intro pins s σ H v u Q I r h
  rw [ha]
  refine wpAny_bind (wpAny_holding (thn (ho pins s σ H _ I h) fun ov s1 ⟨x, H1, I1, r1, q1⟩ => ?_))
  refine wpAny_bind (wpAny_holding (thn (hi pins s1 σ H1 _ I1 q1) fun iv s2 ⟨y, H2, I2, r2, q2⟩ => ?_))
  refine wpAny_bind (wpAny_standAt (wpAny_bind (wpAny_holding (thn (hs pins s2 σ H2 x y v ov iv u _ I2 r1 r2 r q2) fun _ s3 ⟨H3, I3, q3⟩ => ?_))))
  exact wpAny_release ⟨σ, H3, I3, q3⟩
/-- target = value -/
def tAsg (te : TE) (g : TG) : TS := fun D σ H => te σ H fun x H1 => g x σ H1 D.nx
theorem ps_asg {tg e : Expr} {te : TE} {g : TG} (he : PE X e te) (hg : PG X tg g) (hs : swapsWithSole [tg] e pos.line X.env = pure false := by rfl) (hw : swappedStores [tg] e X.env = pure none := by rfl)
    (h1 : (assignEach [tg] X.env).map (·.2) = [assign tg X.env] := by rfl) : PS X (.Assign [tg] e pos) (tAsg te g) := by
  intro pins s σ H D I h
  refine wpAny_Assign_stores (thn (he pins s σ H _ I h) fun v s1 ⟨x, H1, I1, r1, q1⟩ => ?_) hs hw
  rw [h1]
  exact thn (hg pins s1 σ H1 x v _ I1 r1 q1) fun _ s2 q => q
/-- name = value -/
theorem ps_set {i : Nat} {x : Str} {e : Expr} {te : TE} {pos' : Pos} (hN : X.N.Nodup) (hi : X.N[i]? = some x) (hx : Loc X.env.scope x) (he : PE X e te) (hs : swapsWith e (some (.Name x pos')) pos.line X.env = pure false := by rfl) (hf : X.fn x = true ∨ X.env.scope.names.lookup x = some .local := by first | exact .inl rfl | exact .inr rfl | assumption) :
    PS X (.Assign [.Name x pos'] e pos) (tAsg te (gName i)) := by
  intro pins s σ H D I h
  refine wpAny_Assign_Name (thn (he pins s σ H _ I h) fun v s1 ⟨y, H1, I1, r1, q1⟩ => ?_) hs
  exact store_ok I1 hN hi hx r1 (fun s2 I2 => ⟨_, H1, I2, q1⟩) hf
end

/-! ### while -/
section
variable {X : Cx} {pos : Pos}
end

/-! ### what a loop or a comprehension walks -/
/-- at turn i: it yields x (the heap may grow), or it stops -/
structure It where
  go : Nat → Hp → Prop
  yld : Nat → Hp → V → Hp → Prop
  stop : Nat → Hp → Prop
/-- the iterator's own objects may turn: they are not the frame's, not pinned, younger than the entry (or a comprehension's own) -/
def FpOk (X : Cx) (pins : List (Addr × Obj)) (H : Hp) (b : Addr) : Prop :=
  H b = none ∧ b ≠ X.env.locals ∧ b ∉ X.fs ∧ (b ∈ X.ex ∨ X.s₀.heap.objs.size ≤ b) ∧ (∀ x c, X.env.cells.lookup x = some c → c ≠ b) ∧ ∀ p ∈ X.pn ++ pins, p.1 ≠ b
theorem Inv.fpOk {X : Cx} {pins : List (Addr × Obj)} {σ : St} {H H' : Hp} {s : Shared} {b : Addr} (I : Inv X pins σ H s) (hb : s.heap.objs.size ≤ b) (hn : H' b = none) : FpOk X pins H' b := by
  refine ⟨hn, Nat.ne_of_gt (Nat.lt_of_lt_of_le I.lt hb), I.nofs hb, .inr (Nat.le_trans I.sz hb), fun x c e z => ?_, fun p hp z => ?_⟩
  · obtain ⟨v, q⟩ := I.cell x c e
    exact absurd (Nat.lt_of_lt_of_le q.lt (by rw [z]; exact hb)) (Nat.lt_irrefl _)
  · exact absurd (Nat.lt_of_lt_of_le (Heap.lt_size (I.pin p hp).1) (by rw [z]; exact hb)) (Nat.lt_irrefl _)
structure Turn (P : Program) (w : World) (K : PySem.W.Frag) (tg : Expr) (J : It) (fp : List Addr) (it : Addr) (tn : Nat → Heap → Prop) : Prop where
  mem : it ∈ fp
  obj : ∀ i h, tn i h → ∀ b ∈ fp, ∃ o, h.get? b = some o ∧ ∀ v, o.data ≠ .cell v
  keep : ∀ i h h', tn i h → (∀ b ∈ fp, ∀ o, h.get? b = some o → h'.get? b = some o) → tn i h'
  item : ∀ (X : Cx), X.prog = P → X.w = w → X.K = K → X.calm = true → ∀ (i : Nat) (pins : List (Addr × Obj)) (s : Shared) (σ : St) (H : Hp) (E : Value → Shared → Prop), Inv X pins σ H s → (∀ b ∈ fp, FpOk X pins H b) → tn i s.heap → J.go i H →
    wpAny (model P w) X.A (pyNext (.ref it)) (fun r s1 => ∃ u, r = some u ∧
      wpAny (model P w) X.A (letOwnedTupleGo tg (.ref it) u) (fun _ s2 => ∃ x H', Inv X pins σ H' s2 ∧ RelV x u ∧ J.yld i H x H' ∧ tn (i + 1) s2.heap ∧ ∀ b ∈ fp, H' b = none) E s1) E s
  done : ∀ (X : Cx), X.prog = P → X.w = w → X.K = K → X.calm = true → ∀ (i : Nat) (pins : List (Addr × Obj)) (s : Shared) (σ : St) (H : Hp) (E : Value → Shared → Prop), Inv X pins σ H s → (∀ b ∈ fp, FpOk X pins H b) → tn i s.heap → J.stop i H →
    wpAny (model P w) X.A (pyNext (.ref it)) (fun r s1 => r = none ∧ Inv X pins σ H s1) E s
  self : ∀ (A : Around) (i : Nat) (s : Shared) (Q : Value → Shared → Prop) (E : Value → Shared → Prop), tn i s.heap → Q (.ref it) s → wpAny (model P w) A (pyIter (.ref it)) Q E s
abbrev TI := St → Hp → (It → Hp → Prop) → Prop
/-- an iterator has come -/
def PIE (X : Cx) (pins : List (Addr × Obj)) (σ : St) (tg : Expr) (R : It → Hp → Prop) (itv : Value) (s2 : Shared) : Prop :=
  ∃ (it : Addr) (fp : List Addr) (tn : Nat → Heap → Prop) (J : It) (H' : Hp), itv = .ref it ∧ Inv X pins σ H' s2 ∧ Turn X.prog X.w X.K tg J fp it tn ∧ tn 0 s2.heap ∧ (∀ b ∈ fp, FpOk X pins H' b) ∧ R J H'
def PI (X : Cx) (tg iter : Expr) (wi : TI) : Prop :=
  ∀ (pins : List (Addr × Obj)) (s : Shared) (σ : St) (H : Hp) (R : It → Hp → Prop), Inv X pins σ H s → wi σ H R →
    wpAny (model X.prog X.w) X.A (eval iter X.env) (fun v s1 => wpAny (model X.prog X.w) X.A (pyIter v) (PIE X pins σ tg R) X.xe s1) X.xe s

/-- the step ahead of the store is nothing for an iterator that keeps no tuple -/
theorem go_of {M : Model} {A : Around} {E : Value → Shared → Prop} {s : Shared} {tg : Expr} {it : Addr} {u : Value} {o : Obj} {n : String} {vs : Array Value} {Q : Unit → Shared → Prop} (ho : s.heap.get? it = some o) (hc : o.cls = .type n) (hd : o.data = .fields vs)
    (hn : ["enumerate", "zip", "dict_itemiterator", "dict_reverseitemiterator", "odict_iterator", "itertools.zip_longest", "itertools.pairwise"].contains n = false) (hQ : Q () s) : wpAny M A (letOwnedTupleGo tg (.ref it) u) Q E s := by
  unfold letOwnedTupleGo
  cases tg <;> first
    | exact wpAny_pure hQ
    | (cases u <;> first
        | exact wpAny_pure hQ
        | (refine wpAny_bind (wpAny_load ho ?_)
           rw [hc, hd]
           show wpAny M A (if (["enumerate", "zip", "dict_itemiterator", "dict_reverseitemiterator", "odict_iterator", "itertools.zip_longest", "itertools.pairwise"].contains n && vs[0]? == some (rawInt _)) = true then _ else _) Q E s
           rw [if_neg (by intro h; rw [hn, Bool.false_and] at h; cases h)]
           exact wpAny_pure hQ))

/-- the list at a, as it stands at each turn (a loop may append to it) -/
def Itl (K : PySem.W.Frag) (a : Addr) : It :=
  ⟨fun i H => ∃ xs x, SqL K H a xs ∧ xs[i]? = some x, fun i H x H' => H' = H ∧ ∀ xs, SqL K H a xs → xs[i]? = some x, fun i H => ∃ xs, SqL K H a xs ∧ xs.length ≤ i⟩
/-- lo, lo + 1, .. (n of them) -/
def Itr (lo : Int) (n : Nat) : It := ⟨fun i _ => i < n, fun i H x H' => H' = H ∧ x = .int (lo + i), fun i _ => n ≤ i⟩
theorem turn_list {P : Program} {w : World} {K : PySem.W.Frag} {tg : Expr} (a it : Addr) : Turn P w K tg (Itl K a) [it] it (fun i h => h.IsListIter it a i) where
  mem := by simp
  obj := fun i h st b hb => by
    have e : b = it := by simpa using hb
    subst e
    obtain ⟨o, e, c, d⟩ := st
    exact ⟨o, e, fun v z => by rw [d] at z; cases z⟩
  keep := fun i h h' st k => st.at fun o e => k it (by simp) o e
  item := by
    intro X hP hw hK hc i pins s σ H E I hf st hg
    subst hP hw hK
    obtain ⟨xs, x, hq, hx⟩ := hg
    obtain ⟨its, rv, p, hz⟩ := I.list hq
    obtain ⟨u, hu, ru⟩ := rv.get hx
    obtain ⟨f0, f1, f2, f3, f4, f5⟩ := hf it (by simp)
    refine wpAny_pyNext_list_item st p.isList (x := u) (by simpa using hu) fun h' st' sb => ?_
    have I1 : Inv X pins σ H { s with heap := h' } := I.turned (t' := s.toks) (fun b o hb e => (sb.2 b hb).trans e) f0 f1 f3 f4 f5
    obtain ⟨o, e, c, d⟩ := id st'
    exact ⟨u, rfl, go_of (s := { s with heap := h' }) e c d (by decide) ⟨x, H, I1, ru, ⟨rfl, fun ys hy => by rw [I.list_inj hy hq]; exact hx⟩, st', fun b hb => (hf b hb).1⟩⟩
  done := by
    intro X hP hw hK hc i pins s σ H E I hf st hg
    subst hP hw hK
    obtain ⟨xs, hq, hx⟩ := hg
    obtain ⟨its, rv, p, hz⟩ := I.list hq
    obtain ⟨f0, f1, f2, f3, f4, f5⟩ := hf it (by simp)
    have hl := rv.length
    exact wpAny_pyNext_list_end (I.ok.hd hc) st p.isList (by simp; omega) fun h' eb => ⟨rfl, I.turned (t' := s.toks) (fun b o hb e => eb b o hb e) f0 f1 f3 f4 f5⟩
  self := fun _ _ _ _ _ st h => wpAny_pyIter_listiter st h
theorem turn_range {P : Program} {w : World} {K : PySem.W.Frag} {tg : Expr} (it : Addr) (lo : Int) (n : Nat) : Turn P w K tg (Itr lo n) [it] it (fun i h => IsRangeIter h it (lo + (i : Nat) * 1) ((n : Int) - (i : Nat)) 1) where
  mem := by simp
  obj := fun i h st b hb => by
    have e : b = it := by simpa using hb
    subst e
    exact ⟨_, st, fun v z => by
      have z' : Data.fields _ = Data.cell v := z
      cases z'⟩
  keep := fun i h h' st k => k it (by simp) _ st
  item := by
    intro X hP hw hK hc i pins s σ H E I hf st hg
    subst hP hw hK
    obtain ⟨f0, f1, f2, f3, f4, f5⟩ := hf it (by simp)
    have W := Walks.range (prog := X.prog) (w := X.w) (I.ok.hd hc) it lo 1 n
    refine W.item i s _ _ hg st fun v h' tk hv st' kk => ?_
    obtain ⟨t, rfl⟩ := hv
    have I1 : Inv X pins σ H { s with heap := h', toks := tk } := I.turned (fun b o hb e => kk b o (by simpa using hb) e) f0 f1 f3 f4 f5
    refine ⟨_, rfl, go_of (s := { s with heap := h', toks := tk }) (n := "range_iterator") st' rfl rfl (by decide) ⟨.int (lo + i), H, I1, ⟨t, ?_⟩, ⟨rfl, rfl⟩, st', fun b hb => (hf b hb).1⟩⟩
    rw [Int.mul_one]
  done := by
    intro X hP hw hK hc i pins s σ H E I hf st hg
    subst hP hw hK
    obtain ⟨f0, f1, f2, f3, f4, f5⟩ := hf it (by simp)
    exact wpAny_pyNext_range_end (I.ok.hd hc) st (by have : n ≤ i := hg; omega) fun h' eb => ⟨rfl, I.turned (t' := s.toks) (fun b o hb e => eb b o hb e) f0 f1 f3 f4 f5⟩
  self := fun _ _ _ _ _ st h => wpAny_pyIter_rangeiter st h
end L2

namespace L2
open PySem PySem.Spec PyProof.Rows
section
variable {X : Cx} {tg : Expr}
def iList (K : PySem.W.Frag) (tl : TE) : TI := fun σ H R => tl σ H fun x H1 => ∃ a, x = .ref a ∧ (∃ xs, SqL K H1 a xs) ∧ R (Itl K a) H1
theorem pi_list {l : Expr} {tl : TE} (hl : PE X l tl) : PI X tg l (iList X.K tl) := by
  intro pins s σ H R I h
  refine thn (hl pins s σ H _ I h) fun v s1 ⟨x, H1, I1, r1, q1⟩ => ?_
  obtain ⟨a, e, ⟨xs, hq⟩, q⟩ := q1
  subst e
  cases r1
  obtain ⟨its, rv, p, hz⟩ := I1.list hq
  refine wpAny_pyIter_list p.isList ?_
  refine ⟨s1.heap.objs.size, [s1.heap.objs.size], _, _, H1, rfl, I1.kept (t' := s1.toks) fun b o e => Heap.get?_push_of_some _ e, turn_list a _, ⟨_, Heap.get?_push_size _ rfl, rfl, rfl⟩, fun b hb => ?_, q⟩
  have e : b = s1.heap.objs.size := by simpa using hb
  subst e
  exact I1.fpOk (Nat.le_refl _) (I1.hok.fresh (Nat.le_refl _))
/-- a range object just made, walked -/
theorem range_it {pins : List (Addr × Obj)} {σ : St} {H : Hp} {s : Shared} {R : It → Hp → Prop} {E : Value → Shared → Prop} {lo hi : Int} {t u v : Tok} {tk : Nat} (I : Inv X pins σ H s) (h1 : -(2 ^ 62) ≤ lo) (h2 : lo < 2 ^ 62) (h3 : -(2 ^ 62) ≤ hi) (h4 : hi < 2 ^ 62)
    (q : R (Itr lo (hi - lo).toNat) H) : wpAny (model X.prog X.w) X.A (pyIter (.ref s.heap.objs.size)) (PIE X pins σ tg R) E { s with heap := s.heap.push { cls := .type "range", data := .fields #[.int lo t, .int hi u, .int 1 v] }, toks := tk } := by
  refine wpAny_pyIter_range (IsRange.new ..) (small_one h1 h2 h3 h4) ?_
  have I1 : Inv X pins σ H { s with heap := s.heap.push { cls := .type "range", data := .fields #[.int lo t, .int hi u, .int 1 v] }, toks := tk } := I.kept fun b o e => Heap.get?_push_of_some _ e
  refine ⟨(s.heap.push { cls := .type "range", data := .fields #[.int lo t, .int hi u, .int 1 v] }).objs.size, [(s.heap.push { cls := .type "range", data := .fields #[.int lo t, .int hi u, .int 1 v] }).objs.size], _, _, H, rfl,
    I1.kept (t' := tk) fun b o e => Heap.get?_push_of_some _ e, turn_range _ lo (hi - lo).toNat, ?_, fun b hb => ?_, q⟩
  · have e1 : lo + ((0 : Nat) : Int) * 1 = lo := by simp
    have e2 : (((hi - lo).toNat : Nat) : Int) - ((0 : Nat) : Int) = Builtin.Range.rangeSize lo hi 1 := by rw [rangeSize_one]; split <;> omega
    show IsRangeIter _ _ (lo + ((0 : Nat) : Int) * 1) ((((hi - lo).toNat : Nat) : Int) - ((0 : Nat) : Int)) 1
    rw [e1, e2]
    exact Heap.get?_push_size _ rfl
  · have e : b = (s.heap.push { cls := .type "range", data := .fields #[.int lo t, .int hi u, .int 1 v] }).objs.size := by simpa using hb
    subst e
    exact I1.fpOk (Nat.le_refl _) (I1.hok.fresh (Nat.le_refl _))
def iRng1 (ta : TA) : TI := fun σ H R => ta σ H fun vs H1 => ∃ j : Int, vs = [.int j] ∧ -(2 ^ 62) ≤ j ∧ j < 2 ^ 62 ∧ R (Itr 0 j.toNat) H1
def iRng2 (ta : TA) : TI := fun σ H R => ta σ H fun vs H1 => ∃ i j : Int, vs = [.int i, .int j] ∧ (-(2 ^ 62) ≤ i ∧ i < 2 ^ 62 ∧ -(2 ^ 62) ≤ j ∧ j < 2 ^ 62) ∧ R (Itr i (j - i).toNat) H1
theorem pi_range1 {a : Expr} {ta : TA} {p pos : Pos} (hg : Gl X "range") (hm : X.mg "range" = none) (ha : PA X [a] ta) (hs : starEach [a] X.env = [(false, eval a X.env)] := by rfl) : PI X tg (.Call (.Name "range" p) [a] [] pos) (iRng1 ta) := by
  intro pins s σ H R I h
  refine Call_ (ld_blt I hg hm boot_range (PyProof.Rows.callWith_type1 (thn (ha pos pins s σ H _ I h) fun us s1 ⟨vs, H1, I1, r1, q1⟩ => ?_) hs rfl))
  obtain ⟨j, e, q1, q2, q⟩ := q1
  subst e
  cases r1 with
  | cons r rr =>
    cases rr
    obtain ⟨t, rfl⟩ := r
    exact call_range_1 (range_it I1 (by omega) (by omega) q1 q2 (by simpa using q))
theorem pi_range2 {a b : Expr} {ta : TA} {p pos : Pos} (hg : Gl X "range") (hm : X.mg "range" = none) (ha : PA X [a, b] ta) (hs : starEach [a, b] X.env = [(false, eval a X.env), (false, eval b X.env)] := by rfl) (hs2 : starEach [b] X.env = [(false, eval b X.env)] := by rfl) :
    PI X tg (.Call (.Name "range" p) [a, b] [] pos) (iRng2 ta) := by
  intro pins s σ H R I h
  refine Call_ (ld_blt I hg hm boot_range (PyProof.Rows.callWith_type1 (thn (ha pos pins s σ H _ I h) fun us s1 ⟨vs, H1, I1, r1, q1⟩ => ?_) (by rw [hs, hs2]) (by rw [hs2]; rfl)))
  obtain ⟨i, j, e, ⟨q1, q2, q3, q4⟩, q⟩ := q1
  subst e
  cases r1 with
  | cons r rr =>
    cases rr with
    | cons r' rr =>
      cases rr
      obtain ⟨t, rfl⟩ := r
      obtain ⟨t', rfl⟩ := r'
      exact call_range_2 (range_it I1 q1 q2 q3 q4 q)

/-! ### for -/
/-- W: the invariant by the turn and a measure; N: what the body is to reach -/
def tFor (wi : TI) (g : TG) (tb : TS) : TS := fun D σ H => wi σ H fun J H1 => ∃ W : Nat → Nat → St → Hp → Prop, (∃ m, W 0 m σ H1) ∧ ∀ i m σ H, W i m σ H →
  (J.stop i H ∧ D.nx σ H) ∨ (J.go i H ∧ ∃ N : St → Hp → Prop, (∀ σ' H', N σ' H' → ∃ m', m' < m ∧ W (i + 1) m' σ' H') ∧ ∀ x H', J.yld i H x H' → g x σ H' fun σ2 H2 => tb { D with nx := N, ct := N, bk := D.nx } σ2 H2)
/-- the records at fp as they stand -/
def pinsAt (fp : List Addr) (h : Heap) : List (Addr × Obj) := fp.filterMap fun b => (h.get? b).map fun o => (b, o)
theorem mem_pinsAt {fp : List Addr} {h : Heap} {b : Addr} {o : Obj} (hb : b ∈ fp) (e : h.get? b = some o) : (b, o) ∈ pinsAt fp h := List.mem_filterMap.mpr ⟨b, hb, by rw [e]; rfl⟩
theorem of_pinsAt {fp : List Addr} {h : Heap} {p : Addr × Obj} (hp : p ∈ pinsAt fp h) : p.1 ∈ fp ∧ h.get? p.1 = some p.2 := by
  obtain ⟨b, hb, e⟩ := List.mem_filterMap.mp hp
  cases q : h.get? b with
  | none => rw [q] at e; cases e
  | some o =>
    rw [q] at e
    have e' : (b, o) = p := Option.some.inj e
    subst e'
    exact ⟨hb, q⟩
theorem Inv.pinned {pins : List (Addr × Obj)} {σ : St} {H : Hp} {s : Shared} {fp : List Addr} (I : Inv X pins σ H s) (hf : ∀ b ∈ fp, FpOk X pins H b) (ho : ∀ b ∈ fp, ∃ o, s.heap.get? b = some o ∧ ∀ v, o.data ≠ .cell v) : Inv X (pins ++ pinsAt fp s.heap) σ H s :=
  I.pins_of fun p hp => (List.mem_append.mp hp).elim (fun z => I.pin p (List.mem_append_right _ z)) fun z => by
    obtain ⟨hb, e⟩ := of_pinsAt z
    obtain ⟨f0, f1, f2, _⟩ := hf p.1 hb
    obtain ⟨o, e', d⟩ := ho p.1 hb
    rw [e] at e'; cases e'
    exact ⟨e, f0, f1, f2, d⟩
theorem Inv.unpinned {pins pl : List (Addr × Obj)} {σ : St} {H : Hp} {s : Shared} (I : Inv X (pins ++ pl) σ H s) : Inv X pins σ H s := I.pins_of fun p hp => I.pin p (List.mem_append_right _ (List.mem_append_left _ hp))
theorem ps_for {iter : Expr} {body : List Stmt} {wi : TI} {g : TG} {tb : TS} {pos : Pos} (hp : PassesOwn (model X.prog X.w) X.A X.env X.xe) (hc : X.calm = true) (hi : PI X tg iter wi) (hg : PG X tg g) (hb : PSs X body tb)
    (hs : ∀ x, foldedSetIterable iter X.env x = pure x := by intro _; rfl) : PS X (.For tg iter body [] pos) (tFor wi g tb) := by
  intro pins s σ H D I h
  refine wpAny_For (thn (hi pins s σ H _ I h) fun v s1 h1 => thn h1 fun itv s2 h2 => ?_) hs
  obtain ⟨it, fp, tn, J, H2, e, I2, T, st2, f2, W, ⟨m0, w0⟩, turn⟩ := h2
  subst e
  -- what stays true of the iterator's objects through the loop
  have stat : ∀ {H' : Hp}, (∀ b ∈ fp, H' b = none) → ∀ b ∈ fp, FpOk X pins H' b := fun hn b hb => ⟨hn b hb, (f2 b hb).2⟩
  refine codeAny_forLoop_any (fun n s' => ∃ i σ' H', Inv X pins σ' H' s' ∧ tn i s'.heap ∧ (∀ b ∈ fp, H' b = none) ∧ W i n σ' H') ?_ m0 ⟨0, σ, H2, I2, st2, fun b hb => (f2 b hb).1, w0⟩
  rintro n s3 ⟨i, σ3, H3, I3, st3, fr3, w3⟩
  rcases turn i n σ3 H3 w3 with ⟨stop, qn⟩ | ⟨go, N, hN, step⟩
  · refine wpAny_passesOwn hp (thn (T.done X rfl rfl rfl hc i pins s3 σ3 H3 X.xe I3 (stat fr3) st3 stop) fun r s4 ⟨hr, I4⟩ => ?_)
    subst hr
    exact wpAny_execs_nil ⟨σ3, H3, I4, qn⟩
  · refine wpAny_passesOwn hp (thn (T.item X rfl rfl rfl hc i pins s3 σ3 H3 X.xe I3 (stat fr3) st3 go) fun r s4 ⟨u, hr, h4⟩ => ?_)
    subst hr
    refine wpAny_passesOwn hp (thn h4 fun _ s5 ⟨x, H5, I5, r5, y5, st5, fr5⟩ => ?_)
    have I5' := I5.pinned (stat fr5) (T.obj _ _ st5)
    refine wpAny_passesOwn hp (thn (hg _ s5 σ3 H5 x u _ I5' r5 (step x H5 y5)) fun _ s6 ⟨σ6, H6, I6, q6⟩ => ?_)
    refine wpAny_passesOwn hp (thn (hb _ s6 σ6 H6 _ I6 q6) fun f s7 q7 => ?_)
    have again : ∀ {σ7 : St} {H7 : Hp}, Inv X (pins ++ pinsAt fp s5.heap) σ7 H7 s7 → N σ7 H7 → ∃ m, m < n ∧ ∃ i σ' H', Inv X pins σ' H' s7 ∧ tn i s7.heap ∧ (∀ b ∈ fp, H' b = none) ∧ W i m σ' H' := fun {σ7 H7} I7 n7 => by
      obtain ⟨m', hm, w7⟩ := hN σ7 H7 n7
      refine ⟨m', hm, i + 1, σ7, H7, I7.unpinned, T.keep _ _ _ st5 fun b hb o e => (I7.pin (b, o) (List.mem_append_right _ (List.mem_append_right _ (mem_pinsAt hb e)))).1, fun b hb => ?_, w7⟩
      obtain ⟨o, e, d⟩ := T.obj _ _ st5 b hb
      exact (I7.pin (b, o) (List.mem_append_right _ (List.mem_append_right _ (mem_pinsAt hb e)))).2.1
    cases f with
    | next => obtain ⟨σ7, H7, I7, n7⟩ := q7; exact again I7 n7
    | cont => obtain ⟨σ7, H7, I7, n7⟩ := q7; exact again I7 n7
    | brk => obtain ⟨σ7, H7, I7, q7⟩ := q7; exact ⟨σ7, H7, I7.unpinned, q7⟩
    | ret v => obtain ⟨x7, σ7, H7, I7, r7, q7⟩ := q7; exact ⟨x7, σ7, H7, I7.unpinned, r7, q7⟩
end

/-! ### the forms one uses -/
/-- over a list that the body leaves as it is -/
theorem for_list {K : PySem.W.Frag} {a : Addr} {xs : List V} {g : TG} {tb : TS} {D : Ends} {σ : St} {H : Hp} (Pv : Nat → St → Hp → Prop) (h0 : Pv 0 σ H) (hl : ∀ i σ H, i ≤ xs.length → Pv i σ H → SqL K H a xs)
    (hs : ∀ i x σ H, xs[i]? = some x → Pv i σ H → g x σ H fun σ2 H2 => tb { D with nx := Pv (i + 1), ct := Pv (i + 1), bk := D.nx } σ2 H2) (hd : ∀ σ H, Pv xs.length σ H → D.nx σ H) :
    ∃ W : Nat → Nat → St → Hp → Prop, (∃ m, W 0 m σ H) ∧ ∀ i m σ H, W i m σ H →
      ((Itl K a).stop i H ∧ D.nx σ H) ∨ ((Itl K a).go i H ∧ ∃ N : St → Hp → Prop, (∀ σ' H', N σ' H' → ∃ m', m' < m ∧ W (i + 1) m' σ' H') ∧ ∀ x H', (Itl K a).yld i H x H' → g x σ H' fun σ2 H2 => tb { D with nx := N, ct := N, bk := D.nx } σ2 H2) := by
  refine ⟨fun i m σ H => m = xs.length - i ∧ i ≤ xs.length ∧ Pv i σ H, ⟨xs.length, by simp, Nat.zero_le _, h0⟩, ?_⟩
  rintro i m σ H ⟨rfl, hi, p⟩
  have q := hl i σ H hi p
  by_cases hlt : i < xs.length
  · refine .inr ⟨⟨xs, xs[i], q, by simp [hlt]⟩, Pv (i + 1), fun σ' H' p' => ⟨xs.length - (i + 1), by omega, rfl, hlt, p'⟩, fun x H' y => ?_⟩
    obtain ⟨e, y⟩ := y
    subst e
    exact hs i x σ _ (y xs q) p
  · have e : i = xs.length := by omega
    subst e
    exact .inl ⟨⟨xs, q, Nat.le_refl _⟩, hd σ H p⟩
theorem for_range {lo : Int} {n : Nat} {g : TG} {tb : TS} {D : Ends} {σ : St} {H : Hp} (Pv : Nat → St → Hp → Prop) (h0 : Pv 0 σ H)
    (hs : ∀ i σ H, i < n → Pv i σ H → g (.int (lo + i)) σ H fun σ2 H2 => tb { D with nx := Pv (i + 1), ct := Pv (i + 1), bk := D.nx } σ2 H2) (hd : ∀ σ H, Pv n σ H → D.nx σ H) :
    ∃ W : Nat → Nat → St → Hp → Prop, (∃ m, W 0 m σ H) ∧ ∀ i m σ H, W i m σ H →
      ((Itr lo n).stop i H ∧ D.nx σ H) ∨ ((Itr lo n).go i H ∧ ∃ N : St → Hp → Prop, (∀ σ' H', N σ' H' → ∃ m', m' < m ∧ W (i + 1) m' σ' H') ∧ ∀ x H', (Itr lo n).yld i H x H' → g x σ H' fun σ2 H2 => tb { D with nx := N, ct := N, bk := D.nx } σ2 H2) := by
  refine ⟨fun i m σ H => m = n - i ∧ i ≤ n ∧ Pv i σ H, ⟨n, by simp, Nat.zero_le _, h0⟩, ?_⟩
  rintro i m σ H ⟨rfl, hi, p⟩
  by_cases hlt : i < n
  · refine .inr ⟨hlt, Pv (i + 1), fun σ' H' p' => ⟨n - (i + 1), by omega, rfl, hlt, p'⟩, fun x H' y => ?_⟩
    obtain ⟨e, y⟩ := y
    subst e y
    exact hs i σ _ hlt p
  · have e : i = n := by omega
    subst e
    exact .inl ⟨Nat.le_refl _, hd σ H p⟩
end L2

namespace L2
open PySem PySem.Spec PyProof.Rows

abbrev R2 := V → V → Hp → VK → Prop
/-- a two-place operation on values: f is binaryOp op, inplaceOp op or compareOp op -/
def OpR (X : Cx) (f : Value → Value → Sem Value) (r : R2) : Prop :=
  ∀ (pins : List (Addr × Obj)) (s : Shared) (σ : St) (H : Hp) (x y : V) (v u : Value) (Q : VK), Inv X pins σ H s → RelV x v → RelV y u → r x y H Q →
    wpAny (model X.prog X.w) X.A (f v u) (EP X pins σ Q) X.xe s
/-- a one-place operation -/
def UnR (X : Cx) (f : Value → Sem Value) (r : V → Hp → VK → Prop) : Prop :=
  ∀ (pins : List (Addr × Obj)) (s : Shared) (σ : St) (H : Hp) (x : V) (v : Value) (Q : VK), Inv X pins σ H s → RelV x v → r x H Q →
    wpAny (model X.prog X.w) X.A (f v) (EP X pins σ Q) X.xe s
/-- a call of a value that is known (a builtin, a type) with values -/
def CallR (X : Cx) (f : Value) (r : List V → Hp → VK → Prop) : Prop :=
  ∀ (pins : List (Addr × Obj)) (s : Shared) (σ : St) (H : Hp) (xs : List V) (us : List Value) (Q : VK), Inv X pins σ H s → Vals xs us → r xs H Q →
    wpAny (model X.prog X.w) X.A (call f us) (EP X pins σ Q) X.xe s
def tOp (r : R2) (ta tb : TE) : TE := fun σ H Q => ta σ H fun x H1 => tb σ H1 fun y H2 => r x y H2 Q
def tUn (r : V → Hp → VK → Prop) (ta : TE) : TE := fun σ H Q => ta σ H fun x H1 => r x H1 Q
/-- ints in, under C, and a value out -/
inductive rI (C : Int → Int → Prop) (g : Int → Int → V) (x : V) (y : V) (H : Hp) (Q : VK) : Prop
  | mk (i : _) (j : _) (_ : x = .int i) (_ : y = .int j) (_ : C i j) (_ : Q (g i j) H) : rI C g x y H Q
inductive rI0 (g : Int → Int → V) (x : V) (y : V) (H : Hp) (Q : VK) : Prop
  | mk (i : _) (j : _) (_ : x = .int i) (_ : y = .int j) (_ : Q (g i j) H) : rI0 g x y H Q
inductive rU (g : Int → V) (x : V) (H : Hp) (Q : VK) : Prop
  | mk (i : _) (_ : x = .int i) (_ : Q (g i) H) : rU g x H Q

section
variable {X : Cx} {a b c : Expr} {ta tb tc : TE} {pos : Pos}

theorem binT (ha : PE X a ta) (hb : PE X b tb) {pins : List (Addr × Obj)} {s : Shared} {σ : St} {H : Hp} {R : V → V → Hp → Prop} (I : Inv X pins σ H s)
    (h : ta σ H fun x H1 => tb σ H1 fun y H2 => R x y H2) {Q : Value → Shared → Prop} {f : Value → Value → Sem Value}
    (hf : ∀ v u s2 x y H2, Inv X pins σ H2 s2 → RelV x v → RelV y u → R x y H2 → wpAny (model X.prog X.w) X.A (f v u) Q X.xe s2) :
    wpAny (model X.prog X.w) X.A (eval a X.env) (fun v s₁ => wpAny (model X.prog X.w) X.A (eval b X.env) (fun u s₂ => wpAny (model X.prog X.w) X.A (f v u) Q X.xe s₂) X.xe s₁) X.xe s := by
  refine thn (ha pins s σ H _ I h) fun v s1 ⟨x, H1, I1, r1, q1⟩ => ?_
  refine thn (hb pins s1 σ H1 _ I1 q1) fun u s2 ⟨y, H2, I2, r2, q2⟩ => ?_
  exact hf v u s2 x y H2 I2 r1 r2 q2

theorem pe_op {op : Operator} {r : R2} (ho : OpR X (binaryOp op) r) (ha : PE X a ta) (hb : PE X b tb) : PE X (.BinOp a op b pos) (tOp r ta tb) := by
  intro pins s σ H Q I h
  exact wpAny_BinOp (binT ha hb I h fun v u s2 x y H2 I2 rx ry q => ho pins s2 σ H2 x y v u Q I2 rx ry q)
theorem pe_un {op : UnaryOp} {r : V → Hp → VK → Prop} (ho : UnR X (unaryOp op) r) (ha : PE X a ta) : PE X (.UnaryOp op a pos) (tUn r ta) := by
  intro pins s σ H Q I h
  exact UnaryOp_ (thn (ha pins s σ H _ I h) fun v s1 ⟨x, H1, I1, r1, q1⟩ => ho pins s1 σ H1 x v Q I1 r1 q1)
/-! ### ints -/
theorem opI {f : Value → Value → Sem Value} {C : Int → Int → Prop} {g : Int → Int → Int}
    (rule : ∀ (i j : Int) (t u : Tok) (s : Shared) (Q : Value → Shared → Prop) (E : Value → Shared → Prop), C i j → Q (.int (g i j) s.toks) { s with toks := s.toks + 1 } → wpAny (model X.prog X.w) X.A (f (.int i t) (.int j u)) Q E s) :
    OpR X f (rI C fun i j => .int (g i j)) := by
  intro pins s σ H x y v u Q I rx ry h
  obtain ⟨i, j, rfl, rfl, hc, q⟩ := h
  obtain ⟨t, rfl⟩ := rx
  obtain ⟨t', rfl⟩ := ry
  exact rule i j t t' s _ _ hc ⟨.int (g i j), H, I.tok _, ⟨_, rfl⟩, q⟩
theorem opI0 {f : Value → Value → Sem Value} {g : Int → Int → Int}
    (rule : ∀ (i j : Int) (t u : Tok) (s : Shared) (Q : Value → Shared → Prop) (E : Value → Shared → Prop), Q (.int (g i j) s.toks) { s with toks := s.toks + 1 } → wpAny (model X.prog X.w) X.A (f (.int i t) (.int j u)) Q E s) :
    OpR X f (rI0 fun i j => .int (g i j)) := by
  intro pins s σ H x y v u Q I rx ry h
  obtain ⟨i, j, rfl, rfl, q⟩ := h
  obtain ⟨t, rfl⟩ := rx
  obtain ⟨t', rfl⟩ := ry
  exact rule i j t t' s _ _ ⟨.int (g i j), H, I.tok _, ⟨_, rfl⟩, q⟩
theorem opB0 {f : Value → Value → Sem Value} {g : Int → Int → Bool}
    (rule : ∀ (i j : Int) (t u : Tok) (s : Shared) (Q : Value → Shared → Prop) (E : Value → Shared → Prop), Q (.bool (g i j)) s → wpAny (model X.prog X.w) X.A (f (.int i t) (.int j u)) Q E s) :
    OpR X f (rI0 fun i j => .bl (g i j)) := by
  intro pins s σ H x y v u Q I rx ry h
  obtain ⟨i, j, rfl, rfl, q⟩ := h
  obtain ⟨t, rfl⟩ := rx
  obtain ⟨t', rfl⟩ := ry
  exact rule i j t t' s _ _ ⟨.bl (g i j), H, I, rfl, q⟩

def CDiv (i j : Int) : Prop := 0 < j ∧ j < 1073741824
def CMul (i j : Int) : Prop := (-(2 ^ 64) < i ∧ i < 2 ^ 64) ∨ (-(2 ^ 64) < j ∧ j < 2 ^ 64)
theorem CMul.ok {i j : Int} (h : CMul i j) : IntMulOk i j := by
  rcases h with ⟨h1, h2⟩ | ⟨h1, h2⟩
  · exact .of_left (intBits_le_64 h1 h2)
  · exact .of_right (intBits_le_64 h1 h2)
theorem op_add : OpR X (binaryOp .Add) (rI0 fun i j => .int (i + j)) := opI0 fun _ _ _ _ _ _ _ q => add_int q
theorem op_sub : OpR X (binaryOp .Sub) (rI0 fun i j => .int (i - j)) := opI0 fun _ _ _ _ _ _ _ q => sub_int q
theorem op_mul : OpR X (binaryOp .Mult) (rI CMul fun i j => .int (i * j)) := opI fun _ _ _ _ _ _ _ hc q => mul_int q hc.ok
/-- // by a positive divisor -/
theorem op_fdiv : OpR X (binaryOp .FloorDiv) (rI CDiv fun i j => .int (i / j)) := opI fun i j _ _ _ _ _ hc q => by
  have h1 : (0 : Int) < j := hc.1
  have h2 : j < 1073741824 := hc.2
  exact floordiv_int (by omega) (by rw [Int.fdiv_eq_ediv_of_nonneg i (by omega)]; exact q) (.inl (PyProof.noPylong_small (by omega)))
/-- % by a positive divisor of any size -/
theorem op_mod : OpR X (binaryOp .Mod) (rI (fun _ j => 0 < j) fun i j => .int (i % j)) := opI fun i j _ _ _ _ _ hc q => by
  have h1 : (0 : Int) < j := hc
  exact mod_int' (by omega) (by rw [Int.fmod_eq_emod_of_nonneg i (by omega)]; exact q)
theorem unI {f : Value → Sem Value} {g : Int → Int}
    (rule : ∀ (i : Int) (t : Tok) (s : Shared) (Q : Value → Shared → Prop) (E : Value → Shared → Prop), Q (.int (g i) s.toks) { s with toks := s.toks + 1 } → wpAny (model X.prog X.w) X.A (f (.int i t)) Q E s) :
    UnR X f (rU fun i => .int (g i)) := by
  intro pins s σ H x v Q I rx h
  obtain ⟨i, rfl, q⟩ := h
  obtain ⟨t, rfl⟩ := rx
  exact rule i t s _ _ ⟨.int (g i), H, I.tok _, ⟨_, rfl⟩, q⟩
theorem un_neg : UnR X (unaryOp .USub) (rU fun i => .int (-i)) := unI fun _ _ _ _ _ q => neg_int q
/-! ### bools among ints: n += (a < b) -/
end

/-! ### comparisons -/
/-- the scalars that == tells apart as data does -/
def scal : V → V → Bool
  | .non, .non => true | .non, .int _ => true | .int _, .non => true | .non, .bl _ => true | .bl _, .non => true | .non, .str _ => true | .str _, .non => true
  | .int _, .int _ => true | .bl _, .bl _ => true | .str _, .str _ => true | .byt _, .byt _ => true
  | .int _, .str _ => true | .str _, .int _ => true | .bl _, .str _ => true | .str _, .bl _ => true
  | _, _ => false
def rEq : R2 := fun x y H Q => scal x y = true ∧ Q (.bl (decide (x = y))) H
def rNe : R2 := fun x y H Q => scal x y = true ∧ Q (.bl (!decide (x = y))) H

theorem dec_int {i j : Int} : decide (V.int i = V.int j) = (i == j) := by
  rw [Bool.eq_iff_iff]
  simp
theorem dec_bl {i j : Bool} : decide (V.bl i = V.bl j) = (i == j) := by
  rw [Bool.eq_iff_iff]
  simp
theorem dec_str {i j : Str} : decide (V.str i = V.str j) = (i == j) := by
  rw [Bool.eq_iff_iff]
  simp
theorem dec_byt {i j : Array UInt8} : decide (V.byt i = V.byt j) = (i.toList == j.toList) := by
  rw [Bool.eq_iff_iff]
  cases i
  cases j
  simp

section
variable {X : Cx} {a b c : Expr} {ta tb tc : TE} {pos : Pos}
theorem fin_bl {pins : List (Addr × Obj)} {σ : St} {H : Hp} {s : Shared} {Q : VK} {k k' : Bool} (I : Inv X pins σ H s) (q : Q (.bl k) H) (e : k = k') : EP X pins σ Q (.bool k') s := by
  subst e
  exact ⟨.bl k, H, I, rfl, q⟩
theorem op_eq : OpR X (compareOp .Eq) rEq := by
  intro pins s σ H x y v u Q I rx ry h
  obtain ⟨hs, q⟩ := h
  cases x with
  | non =>
    cases rx
    cases y with
    | non => cases ry; exact PySem.EqNone.eq_none_none (fin_bl I q (by simp))
    | bl j => cases ry; exact PySem.EqNone.eq_none_bool (fin_bl I q (by simp))
    | int j => obtain ⟨t', rfl⟩ := ry; exact PySem.EqNone.eq_none_int (fin_bl I q (by simp))
    | str j => obtain ⟨t', rfl⟩ := ry; exact PySem.EqNone.eq_none_str (fin_bl I q (by simp))
    | _ => exact absurd (show false = true from hs) Bool.false_ne_true
  | bl i =>
    cases rx
    cases y with
    | non => cases ry; exact PySem.EqNone.eq_bool_none (fin_bl I q (by simp))
    | bl j => cases ry; exact eq_bool (fin_bl I q dec_bl)
    | str j => obtain ⟨t', rfl⟩ := ry; exact PySem.EqMixed.eq_bool_str (fin_bl I q (by simp))
    | _ => exact absurd (show false = true from hs) Bool.false_ne_true
  | int i =>
    obtain ⟨t, rfl⟩ := rx
    cases y with
    | non => cases ry; exact PySem.EqNone.eq_int_none (fin_bl I q (by simp))
    | int j => obtain ⟨t', rfl⟩ := ry; exact eq_int (fin_bl I q dec_int)
    | str j => obtain ⟨t', rfl⟩ := ry; exact PySem.EqMixed.eq_int_str (fin_bl I q (by simp))
    | _ => exact absurd (show false = true from hs) Bool.false_ne_true
  | str i =>
    obtain ⟨t, rfl⟩ := rx
    cases y with
    | non => cases ry; exact PySem.EqNone.eq_str_none (fin_bl I q (by simp))
    | bl j => cases ry; exact PySem.EqMixed.eq_str_bool (fin_bl I q (by simp))
    | int j => obtain ⟨t', rfl⟩ := ry; exact PySem.EqMixed.eq_str_int (fin_bl I q (by simp))
    | str j => obtain ⟨t', rfl⟩ := ry; exact eq_str (fin_bl I q dec_str)
    | _ => exact absurd (show false = true from hs) Bool.false_ne_true
  | byt i =>
    obtain ⟨t, rfl⟩ := rx
    cases y with
    | byt j => obtain ⟨t', rfl⟩ := ry; exact PySem.W.eq_bytes (fin_bl I q dec_byt)
    | _ => exact absurd (show false = true from hs) Bool.false_ne_true
  | _ => cases y <;> exact absurd (show false = true from hs) Bool.false_ne_true
theorem op_ne : OpR X (compareOp .NotEq) rNe := by
  intro pins s σ H x y v u Q I rx ry h
  obtain ⟨hs, q⟩ := h
  cases x with
  | non =>
    cases rx
    cases y with
    | non => cases ry; exact PySem.EqNone.ne_none_none (fin_bl I q (by simp))
    | bl j => cases ry; exact PySem.EqNone.ne_none_bool (fin_bl I q (by simp))
    | int j => obtain ⟨t', rfl⟩ := ry; exact PySem.EqNone.ne_none_int (fin_bl I q (by simp))
    | str j => obtain ⟨t', rfl⟩ := ry; exact PySem.EqNone.ne_none_str (fin_bl I q (by simp))
    | _ => exact absurd (show false = true from hs) Bool.false_ne_true
  | bl i =>
    cases rx
    cases y with
    | non => cases ry; exact PySem.EqNone.ne_bool_none (fin_bl I q (by simp))
    | bl j => cases ry; exact ne_bool (fin_bl I q (congrArg not dec_bl))
    | str j => obtain ⟨t', rfl⟩ := ry; exact PySem.EqMixed.ne_bool_str (fin_bl I q (by simp))
    | _ => exact absurd (show false = true from hs) Bool.false_ne_true
  | int i =>
    obtain ⟨t, rfl⟩ := rx
    cases y with
    | non => cases ry; exact PySem.EqNone.ne_int_none (fin_bl I q (by simp))
    | int j => obtain ⟨t', rfl⟩ := ry; exact ne_int (fin_bl I q (congrArg not dec_int))
    | str j => obtain ⟨t', rfl⟩ := ry; exact PySem.EqMixed.ne_int_str (fin_bl I q (by simp))
    | _ => exact absurd (show false = true from hs) Bool.false_ne_true
  | str i =>
    obtain ⟨t, rfl⟩ := rx
    cases y with
    | non => cases ry; exact PySem.EqNone.ne_str_none (fin_bl I q (by simp))
    | bl j => cases ry; exact PySem.EqMixed.ne_str_bool (fin_bl I q (by simp))
    | int j => obtain ⟨t', rfl⟩ := ry; exact PySem.EqMixed.ne_str_int (fin_bl I q (by simp))
    | str j => obtain ⟨t', rfl⟩ := ry; exact ne_str (fin_bl I q (congrArg not dec_str))
    | _ => exact absurd (show false = true from hs) Bool.false_ne_true
  | byt i =>
    obtain ⟨t, rfl⟩ := rx
    cases y with
    | byt j => obtain ⟨t', rfl⟩ := ry; exact PySem.W.ne_bytes (fin_bl I q (congrArg not dec_byt))
    | _ => exact absurd (show false = true from hs) Bool.false_ne_true
  | _ => cases y <;> exact absurd (show false = true from hs) Bool.false_ne_true

theorem op_lt : OpR X (compareOp .Lt) (rI0 fun i j => .bl (decide (i < j))) := opB0 fun _ _ _ _ _ _ _ q => lt_int q
theorem op_le : OpR X (compareOp .LtE) (rI0 fun i j => .bl (decide (i ≤ j))) := opB0 fun _ _ _ _ _ _ _ q => le_int q
theorem op_gt : OpR X (compareOp .Gt) (rI0 fun i j => .bl (decide (j < i))) := opB0 fun _ _ _ _ _ _ _ q => gt_int q
theorem nomark (b : Expr) {op : CmpOp} (h : op ≠ .In := by decide) (h2 : op ≠ .NotIn := by decide) : behindInMarks op b = false := by
  have e1 : (op == CmpOp.In) = false := by cases op <;> first | rfl | exact absurd rfl h
  have e2 : (op == CmpOp.NotIn) = false := by cases op <;> first | rfl | exact absurd rfl h2
  cases b <;> simp [behindInMarks, e1, e2]
/-- a comparison as a value; hm: nomark b, or (for in, not in) by with_unfolding_all rfl -/
theorem pe_cmpR {op : CmpOp} {r : R2} (ho : OpR X (compareOp op) r) (ha : PE X a ta) (hb : PE X b tb) (hm : behindInMarks op b = false) : PE X (.Compare a [op] [b] pos) (tOp r ta tb) := by
  intro pins s σ H Q I h
  exact wpAny_Compare1 (binT ha hb I h fun v u s2 x y H2 I2 rx ry q => ho pins s2 σ H2 x y v u Q I2 rx ry q) hm
/-- a reading of a value as a test -/
def tTest (t : TE) : TT := fun σ H Q => t σ H fun x H' => ∃ k, x = .bl k ∧ Q k H'
theorem pt_cmpR {op : CmpOp} {r : R2} (ho : OpR X (compareOp op) r) (ha : PE X a ta) (hb : PE X b tb) (hm : behindInMarks op b = false) : PT X (.Compare a [op] [b] pos) (tTest (tOp r ta tb)) := by
  intro pins s σ H Q I h
  refine wpAny_isTrue_Compare1 (thn (ha pins s σ H _ I h) fun v s1 ⟨x, H1, I1, r1, q1⟩ => thn (hb pins s1 σ H1 _ I1 q1) fun u s2 ⟨y, H2, I2, r2, q2⟩ =>
    thn (ho pins s2 σ H2 x y v u _ I2 r1 r2 q2) fun c s3 ⟨z, H3, I3, r3, k, e, q3⟩ => ?_) hm
  subst e
  cases r3
  exact wpAny_truthy_bool ⟨H3, I3, q3⟩
/-! ### truth -/
theorem line63 : (sizeLine : Nat) < 2 ^ 63 := by rw [sizeLine_eq]; decide
/-! ### strs and bytes -/
theorem op_add_str : OpR X (binaryOp .Add) (fun x y H Q => ∃ i j, x = .str i ∧ y = .str j ∧ i.length + j.length ≤ sizeLine ∧ Q (.str (i ++ j)) H) := by
  intro pins s σ H x y v u Q I rx ry h
  obtain ⟨i, j, rfl, rfl, hz, q⟩ := h
  obtain ⟨t, rfl⟩ := rx
  obtain ⟨t', rfl⟩ := ry
  exact add_str (fun t' tk => ⟨.str (i ++ j), H, I.tok _, ⟨_, rfl⟩, q⟩) hz
/-! ### scalar builtins, by CallR -/
theorem vals1 {x : V} {us : List Value} (r : Vals [x] us) : ∃ u, us = [u] ∧ RelV x u := by
  cases r with
  | cons r1 r2 => cases r2; exact ⟨_, rfl, r1⟩
theorem vals2 {x y : V} {us : List Value} (r : Vals [x, y] us) : ∃ u w', us = [u, w'] ∧ RelV x u ∧ RelV y w' := by
  cases r with
  | cons r1 r2 =>
    cases r2 with
    | cons r3 r4 => cases r4; exact ⟨_, _, rfl, r1, r3⟩
theorem call_min2 (hc : X.calm = true) : CallR X (.builtin "min") (fun xs H Q => ∃ i j, xs = [.int i, .int j] ∧ Q (.int (if j < i then j else i)) H) := by
  intro pins s σ H xs us Q I r h
  obtain ⟨i, j, rfl, q⟩ := h
  obtain ⟨u, w', rfl, ⟨t, rfl⟩, ⟨t', rfl⟩⟩ := vals2 r
  refine min_two_ints (I.ok.hd hc) fun h' tk k => ⟨_, H, I.kept k, ?_, q⟩
  by_cases hj : j < i
  · rw [if_pos hj, if_pos hj]; exact ⟨_, rfl⟩
  · rw [if_neg hj, if_neg hj]; exact ⟨_, rfl⟩
end
end L2

namespace L2
open PySem PySem.Spec PyProof.Rows

/-! ### an instance, its attributes a map -/
structure ObjM (h : Heap) (x dx C : Addr) (mA : Str → Option Value) : Prop where
  obj : h.get? x = some (PySem.W.instObj C dx)
  ns : h.Ns1 dx mA
  ne : dx ≠ x

theorem lookIn_ns {h : Heap} {dx : Addr} {mA : Str → Option Value} (n : h.Ns1 dx mA) : ∃ od, h.get? dx = some od ∧ ∀ name, PySem.W.lookIn name od = some (mA name) := by
  obtain ⟨o, es, ep, ho, hd, hk, _, hm⟩ := n
  refine ⟨o, ho, fun name => ?_⟩
  have e := hm name
  unfold nsFind findBy at e
  rw [← Array.find?_toList] at e
  unfold PySem.W.lookIn
  rw [hd]
  dsimp only
  split
  · rename_i y q
    rw [q] at e
    exact congrArg some e
  · rename_i q
    rw [q] at e
    have a : es.toList.any (·.refKey) = false := by
      rw [List.any_eq_false]
      intro y hy
      obtain ⟨z, t, hkey⟩ := hk y (Array.mem_toList_iff.mp hy)
      simp [DictEntry.refKey, hkey]
    have a' : ¬ es.toList.any (·.refKey) = true := by rw [a]; exact Bool.false_ne_true
    rw [if_neg a']
    exact congrArg some e

theorem ObjM.look {h : Heap} {x dx C : Addr} {mA : Str → Option Value} (I : ObjM h x dx C mA) : ∃ od, PySem.W.InstAt h x (PySem.W.instObj C dx) C (some od) ∧ ∀ name, PySem.W.lookIn name od = some (mA name) :=
  let ⟨od, ho, hl⟩ := lookIn_ns I.ns
  ⟨od, ⟨I.obj, rfl, rfl, ho⟩, hl⟩

section
variable {prog : Program} {w : World} {A : Around} {E : Value → Shared → Prop} {s : Shared} {K : PySem.W.Frag} {x dx C f : Addr} {mA : Str → Option Value} {name : Str} {v : Value}

theorem get_map {expr : Bool} {Q : Value → Shared → Prop} (X : K.In s.heap) (I : ObjM s.heap x dx C mA) (hg : PySem.W.plainGet K C name = true) (hh : PySem.W.hasDictIn K C = true)
    (ha : PySem.W.findIn K (.ref C) name = some none) (hv : mA name = some v) (hv' : PySem.W.handedIn v = true) (h : Q v { s with toks := s.toks + 1 }) :
    wpAny (model prog w) A (getAttr (.ref x) name expr) Q E s := by
  obtain ⟨od, J, hl⟩ := I.look
  exact PySem.W.get_value X J (PySem.W.plainGet_of hg).1 (PySem.W.findObj_own hh ha rfl (by rw [hl, hv])) hv' h

theorem get_meth {pl : Sem Bool} {Q : Value × List Value → Shared → Prop} (X : K.In s.heap) (I : ObjM s.heap x dx C mA) (hg : PySem.W.plainGet K C name = true)
    (hf : PySem.W.findIn K (.ref C) name = some (some (.ref f))) (ht : PySem.W.isFn K (.ref f) = true) (hv : mA name = none) (h : Q (.ref f, [.ref x]) s) :
    wpAny (model prog w) A (getMethod (.ref x) name pl) Q E s := by
  obtain ⟨od, J, hl⟩ := I.look
  exact PySem.W.method_fn X J (PySem.W.plainGet_of hg).1 (PySem.W.plainGet_of hg).2 hf (beq_iff_eq.mp ht) (by show (PySem.W.lookIn name od).map (·.isSome) = some false; rw [hl, hv]; rfl) h

theorem set_map {ns : List Str} {Q : Unit → Shared → Prop} (X : K.In s.heap) (I : ObjM s.heap x dx C mA)
    (hs : PySem.W.findIn K (.ref C) "__setattr__" = some (some (.builtin "object.__setattr__"))) (hp : PySem.W.plainOver K C = true) (ht : PySem.W.takerIn K C name = some none) (hh : PySem.W.hasDictIn K C = true)
    (hw : PySem.Within mA ns) (hsz : ns.length ≤ sizeLine)
    (h : ∀ h', ObjM h' x dx C (fun y => if y = name then some v else mA y) → Heap.SameBut dx s.heap h' → Q () { s with heap := h', toks := s.toks + 2 }) :
    wpAny (model prog w) A (setAttr (.ref x) name v) Q E s := by
  obtain ⟨od, J, hl⟩ := I.look
  refine PySem.W.set_plain X J hs (PySem.W.osa_open (s := { s with toks := s.toks + 1 }) (r := none) X J hp ht fun b => ?_)
  obtain ⟨cd, hc, hd'⟩ := PySem.W.any_some hh
  have hx : s.heap.get? x = some ⟨.ref C, some dx, .plain, #[]⟩ := I.obj
  refine wpAny_bind (wpAny_pure (wpAny_bind (wpAny_bind (wpAny_loadPart hx (wpAny_bind (PySem.W.Looks.here (s := { s with toks := s.toks + 1 }) (PySem.W.looks_clsIn X hc) ?_))))))
  rw [hd']
  refine wpAny_pure (a := some dx) (wpAny_bind (wpAny_pure (wpAny_bind ?_)))
  refine wpAny_nsSet1 (s := { s with toks := s.toks + 1 }) I.ns fun h' hn2 hs2 => ?_
  obtain ⟨oD, esD, epD, hoD, hdD, hcD⟩ := hn2.count (PySem.Within.cons name v hw)
  refine wpAny_bind (wpAny_lookBehind hoD (by rw [hdD]; exact pastItsLine_dict (Nat.le_trans hcD (by rw [List.length_cons]; omega))) ?_)
  exact wpAny_pure (h _ ⟨(hs2.2 _ (Ne.symm I.ne)).trans I.obj, hn2, I.ne⟩ hs2)

/-- C(..): the dict at the heap's end, the instance behind it; then its __init__ -/
theorem make_map {R : Result → Shared → Prop} {vs : List Value} {kw : List (Str × Value)} (X : K.In s.heap) (hm : PySem.W.makesIn K C = true)
    (hi : PySem.W.findIn K (.ref C) "__init__" = some (some (.ref f))) (hf : PySem.W.typeIn K (.ref f) = some (.type "function"))
    (h : codeAny (model prog w) (A.under (.builtin "type.__call__" ⟨.ref C :: vs, kw⟩)) (.call (.ref f) ⟨.ref (s.heap.objs.size + 1) :: vs, kw⟩) (PySem.W.InitBack (s.heap.objs.size + 1) R)
      { s with heap := (s.heap.push PySem.W.emptyDict).push (PySem.W.instObj C s.heap.objs.size) }) :
    codeAny (model prog w) A (.call (.ref C) ⟨vs, kw⟩) R s := by
  obtain ⟨hh, g, d, t, os⟩ := s
  exact PySem.W.make_core (PySem.W.makes_of X hm) (PySem.W.looks_findIn X hi) (fun self => PySem.W.bind_fn X self hf) (.inl rfl) h
end

/-! ### the attributes as a list of pairs -/
def putF (f : Str) (v : V) : List (Str × V) → List (Str × V)
  | [] => [(f, v)]
  | (g, x) :: r => if g = f then (g, v) :: r else (g, x) :: putF f v r
theorem lookup_putF (f g : Str) (v : V) : ∀ fs : List (Str × V), (putF f v fs).lookup g = if g = f then some v else fs.lookup g
  | [] => by
    show List.lookup g [(f, v)] = _
    by_cases h : g = f
    · have hb : (g == f) = true := beq_iff_eq.mpr h
      simp only [List.lookup, hb, if_pos h]
    · have hb : (g == f) = false := beq_eq_false_iff_ne.mpr h
      simp only [List.lookup, hb, if_neg h]
  | (k, x) :: r => by
    have ih := lookup_putF f g v r
    rw [show putF f v ((k, x) :: r) = (if k = f then (k, v) :: r else (k, x) :: putF f v r) from rfl]
    by_cases hk : k = f
    · rw [if_pos hk]
      by_cases h : g = k
      · have hb : (g == k) = true := beq_iff_eq.mpr h
        simp only [List.lookup, hb, if_pos (h.trans hk)]
      · have hb : (g == k) = false := beq_eq_false_iff_ne.mpr h
        simp only [List.lookup, hb, if_neg (fun e : g = f => h (e.trans hk.symm))]
    · rw [if_neg hk]
      by_cases h : g = k
      · have hb : (g == k) = true := beq_iff_eq.mpr h
        simp only [List.lookup, hb, if_neg (fun e : g = f => hk (h.symm.trans e))]
      · have hb : (g == k) = false := beq_eq_false_iff_ne.mpr h
        simp only [List.lookup, hb]
        exact ih
theorem keys_putF (f : Str) (v : V) : ∀ fs : List (Str × V), f ∈ (putF f v fs).map (·.1) ∧ ∀ g, g ∈ fs.map (·.1) → g ∈ (putF f v fs).map (·.1)
  | [] => ⟨by simp [putF], fun g h => by simp at h⟩
  | (k, x) :: r => by
    obtain ⟨i1, i2⟩ := keys_putF f v r
    rw [show putF f v ((k, x) :: r) = (if k = f then (k, v) :: r else (k, x) :: putF f v r) from rfl]
    by_cases hk : k = f
    · rw [if_pos hk]
      subst hk
      exact ⟨by simp, fun g h => by simpa using h⟩
    · rw [if_neg hk]
      refine ⟨?_, fun g h => ?_⟩
      · rw [List.map_cons]
        exact List.mem_cons_of_mem _ i1
      · rw [List.map_cons] at h ⊢
        rcases List.mem_cons.mp h with e | e
        · exact List.mem_cons.mpr (.inl e)
        · exact List.mem_cons_of_mem _ (i2 g e)
theorem length_putF (f : Str) (v : V) : ∀ fs : List (Str × V), (putF f v fs).length ≤ fs.length + 1
  | [] => by simp [putF]
  | (k, x) :: r => by
    have ih := length_putF f v r
    rw [show putF f v ((k, x) :: r) = (if k = f then (k, v) :: r else (k, x) :: putF f v r) from rfl]
    by_cases hk : k = f
    · rw [if_pos hk, List.length_cons, List.length_cons]; omega
    · rw [if_neg hk, List.length_cons, List.length_cons]; omega

theorem RelO.some_of {v : V} {o : Option Value} (r : RelO (some v) o) : ∃ u, o = some u ∧ RelV v u := by
  cases o with
  | none => exact (show False from r).elim
  | some u => exact ⟨u, rfl, r⟩
theorem RelO.none_of {o : Option Value} (r : RelO none o) : o = none := by
  cases o with
  | none => rfl
  | some u => exact (show False from r).elim
theorem handed_of {v : V} {u : Value} (r : RelV v u) : PySem.W.handedIn u = true := by
  cases v with
  | non => cases (show u = Value.none from r); rfl
  | bl b => cases (show u = Value.bool b from r); rfl
  | int i => obtain ⟨t, e⟩ := (show ∃ t, u = Value.int i t from r); cases e; rfl
  | str x => obtain ⟨t, e⟩ := (show ∃ t, u = Value.str x t from r); cases e; rfl
  | byt b => obtain ⟨t, e⟩ := (show ∃ t, u = Value.bytes b t from r); cases e; rfl
  | flt b => obtain ⟨t, e⟩ := (show ∃ t, u = Value.float b t from r); cases e; rfl
  | ref a => cases (show u = Value.ref a from r); rfl
  | ty n => cases (show u = Value.type n from r); rfl

section
variable {P : Program} {w : World} {H H' : Hp} {h h' : Heap} {a C dx : Addr} {fs fs' : List (Str × V)}
theorem ins_get (hok : HOk P w H h) (e : H a = some (.ins C dx fs)) : ∃ mA, ObjM h a dx C mA ∧ (∀ f, RelO (fs.lookup f) (mA f)) ∧ PySem.Within mA (fs.map (·.1)) ∧ fs.length ≤ 1000 ∧ H dx = some (.own a) := by
  obtain ⟨d, z, ne, ob, mA, n, r, q⟩ := (show ObjOk P w H h a (.ins C dx fs) from hok a _ e)
  exact ⟨mA, ⟨ob, n, ne⟩, r, q, z, d⟩
end

/-! ### what of the text a class must have -/
structure Cls (K : PySem.W.Frag) (C : Addr) : Prop where
  pg : PySem.W.plainGet K C Str.empty = true
  hd : PySem.W.hasDictIn K C = true
  po : PySem.W.plainOver K C = true
  sa : PySem.W.findIn K (.ref C) "__setattr__" = some (some (.builtin "object.__setattr__"))
theorem Cls.get {K : PySem.W.Frag} {C : Addr} (c : Cls K C) (f : Str) : PySem.W.plainGet K C f = true := c.pg
/-- no class of it has the name -/
def NoAttr (K : PySem.W.Frag) (C : Addr) (f : Str) : Prop := PySem.W.findIn K (.ref C) f = some none
theorem NoAttr.taker {K : PySem.W.Frag} {C : Addr} {f : Str} (n : NoAttr K C f) : PySem.W.takerIn K C f = some none := by
  unfold PySem.W.takerIn
  rw [show PySem.W.findIn K (.ref C) f = some none from n]
  rfl
/-- a constant of the class -/
structure Con (K : PySem.W.Frag) (C : Addr) (f : Str) (v : V) (u : Value) : Prop where
  at_ : PySem.W.findIn K (.ref C) f = some (some u)
  rel : RelV v u
  get : PySem.W.specialIn K u "__get__" = some none
  cp : PySem.W.copiedNames.contains f = false
/-- a method: a plain def of the class or of one above it -/
structure Meth (K : PySem.W.Frag) (C : Addr) (m : Str) (f : Addr) : Prop where
  at_ : PySem.W.findIn K (.ref C) m = some (some (.ref f))
  fn : PySem.W.isFn K (.ref f) = true
  kp : PySem.W.keepIn K (.ref f) = true

section
variable {X : Cx} {pins : List (Addr × Obj)} {σ : St} {H : Hp} {s : Shared} {a C dx : Addr} {fs : List (Str × V)} {f : Str} {v : V} {A : Around} {E : Value → Shared → Prop}

theorem getattr_ok {b : Bool} {Q : Value → Shared → Prop} (I : Inv X pins σ H s) (e : H a = some (.ins C dx fs)) (c : Cls X.K C) (n : NoAttr X.K C f) (l : fs.lookup f = some v)
    (h : ∀ u s', Inv X pins σ H s' → RelV v u → Q u s') : wpAny (model X.prog X.w) A (getAttr (.ref a) f b) Q E s := by
  obtain ⟨mA, O, r, _, _, _⟩ := ins_get I.hok e
  obtain ⟨u, hu, ru⟩ := RelO.some_of (v := v) (o := mA f) (by rw [← l]; exact r f)
  exact get_map I.kIn O (c.get f) c.hd n hu (handed_of ru) (h u _ (I.tok _) ru)

theorem getmeth_ok {m : Str} {g : Addr} {pl : Sem Bool} {Q : Value × List Value → Shared → Prop} (I : Inv X pins σ H s) (e : H a = some (.ins C dx fs)) (c : Cls X.K C) (k : Meth X.K C m g) (l : fs.lookup m = none)
    (h : Q (.ref g, [.ref a]) s) : wpAny (model X.prog X.w) A (getMethod (.ref a) m pl) Q E s := by
  obtain ⟨mA, O, r, _, _, _⟩ := ins_get I.hok e
  have hn : mA m = none := RelO.none_of (by rw [← l]; exact r m)
  exact get_meth I.kIn O (c.get m) k.at_ k.fn hn h

theorem setattr_ok {y : V} {u : Value} {Q : Unit → Shared → Prop} (I : Inv X pins σ H s) (e : H a = some (.ins C dx fs)) (c : Cls X.K C) (n : NoAttr X.K C f) (hl : fs.length < 1000) (ry : RelV y u)
    (h : ∀ s', Inv X pins σ (upd H a (.ins C dx (putF f y fs))) s' → Q () s') : wpAny (model X.prog X.w) A (setAttr (.ref a) f u) Q E s := by
  obtain ⟨mA, O, r, wi, _, ho⟩ := ins_get I.hok e
  have hz : (fs.map (·.1)).length ≤ sizeLine := by rw [List.length_map, sizeLine_eq]; omega
  refine set_map I.kIn O c.sa c.po n.taker c.hd wi hz fun h' O' sb => h _ ?_
  have hd : ∃ o, h'.get? dx = some o := let ⟨o, _, _, e', _⟩ := O'.ns; ⟨o, e'⟩
  refine I.write (x := a) (e := dx) (by rw [e]; exact True.intro) (.inr ho) (fun b q hb z => (sb.2 b hb).trans z) hd ?_
  refine ⟨by rw [upd_ne O.ne]; exact ho, ?_, O.ne, O'.obj, _, O'.ns, fun g => ?_, fun g hg => ?_⟩
  · have := length_putF f y fs; omega
  · show RelO ((putF f y fs).lookup g) (if g = f then some u else mA g)
    rw [lookup_putF]
    by_cases q : g = f
    · rw [if_pos q, if_pos q]; exact ry
    · rw [if_neg q, if_neg q]; exact r g
  · by_cases q : g = f
    · rw [q]; exact (keys_putF f y fs).1
    · refine (keys_putF f y fs).2 g (wi g fun z => hg ?_)
      show (if g = f then some u else mA g) = none
      rw [if_neg q]; exact z

/-- a new instance, tracked, without attributes -/
theorem Inv.made (I : Inv X pins σ H s) : Inv X pins σ (upd (upd H s.heap.objs.size (.own (s.heap.objs.size + 1))) (s.heap.objs.size + 1) (.ins C s.heap.objs.size []))
    { s with heap := (s.heap.push PySem.W.emptyDict).push (PySem.W.instObj C s.heap.objs.size) } := by
  have e1 : (s.heap.push PySem.W.emptyDict).get? s.heap.objs.size = some PySem.W.emptyDict := Heap.get?_push_size s.heap rfl
  have e2 : ((s.heap.push PySem.W.emptyDict).push (PySem.W.instObj C s.heap.objs.size)).get? (s.heap.objs.size + 1) = some (PySem.W.instObj C s.heap.objs.size) := by
    have := Heap.get?_push_size (s.heap.push PySem.W.emptyDict) (o := PySem.W.instObj C s.heap.objs.size) rfl
    rwa [Heap.size_push] at this
  have e3 : (s.heap.push PySem.W.emptyDict).Ns s.heap.objs.size (fun _ => none) := ⟨PySem.W.emptyDict, #[], _, e1, rfl, (fun e he => absurd he (by simp)), fun _ => rfl⟩
  have I1 := I.laid (a := s.heap.objs.size) (o := .own (s.heap.objs.size + 1)) (h' := s.heap.push PySem.W.emptyDict) (t' := s.toks) (fun b u q => Heap.get?_push_of_some _ q) (Nat.le_refl _) ⟨_, e1⟩
  refine I1.laid (a := s.heap.objs.size + 1) (o := .ins C s.heap.objs.size []) (t' := s.toks) (fun b u q => Heap.get?_push_of_some _ q) (Nat.le_of_eq (Heap.size_push _ _)) ?_
  have ne : s.heap.objs.size ≠ s.heap.objs.size + 1 := Nat.ne_of_lt (Nat.lt_succ_self _)
  refine ⟨by rw [upd_ne ne, upd_same], Nat.zero_le _, ne, e2, fun _ => none, (Heap.Ns1.of_empty e3).at fun o q => Heap.get?_push_of_some _ q, fun _ => True.intro, fun y hy => absurd rfl hy⟩

/-- e.f where nothing but the object is asked: through attributeBase (super) and the last hold -/
theorem attr_of {prog : Program} {w : World} {env : Env} {e : Expr} {f : Str} {pos : Pos} {s : Shared} {Q : Value → Shared → Prop} (hb : attributeBase e f env (eval e env) = eval e env)
    (h : wpAny (model prog w) A (eval e env) (fun o s₁ => wpAny (model prog w) A (getAttr o f true) Q E s₁) E s) : wpAny (model prog w) A (eval (.Attribute e f pos) env) Q E s :=
  Attribute_any_ h (by rw [arm_eval_Attribute, hb])
end

/-! ### readings and rules -/
/-- e.f, an attribute of the instance -/
inductive isFld (K : PySem.W.Frag) (f : Str) (x : V) (H1 : Hp) (Q : VK) : Prop
  | mk (a : Addr) (C : Addr) (dx : Addr) (fs : List (Str × V)) (v : V) (_ : x = .ref a) (_ : H1 a = some (.ins C dx fs)) (_ : Cls K C) (_ : NoAttr K C f) (_ : fs.lookup f = some v) (_ : Q v H1) : isFld K f x H1 Q
def tFld (K : PySem.W.Frag) (ta : TE) (f : Str) : TE := fun σ H Q => ta σ H fun x H1 => isFld K f x H1 Q
/-- e.f = value -/
def sFld (K : PySem.W.Frag) (ta tv : TE) (f : Str) : TS := fun D σ H => tv σ H fun y H1 => ta σ H1 fun x H2 => ∃ a C dx fs, x = .ref a ∧ H2 a = some (.ins C dx fs) ∧ Cls K C ∧ NoAttr K C f ∧ fs.length < 1000 ∧
  D.nx σ (upd H2 a (.ins C dx (putF f y fs)))
section
variable {X : Cx} {o e value : Expr} {f : Str} {pos pos' tpos : Pos} {ta tv : TE}
theorem pe_fld (he : PE X e ta) (hb : attributeBase e f X.env (eval e X.env) = eval e X.env) : PE X (.Attribute e f pos) (tFld X.K ta f) := by
  intro pins s σ H Q I h
  refine attr_of hb (thn (he pins s σ H _ I h) fun u s1 ⟨x, H1, I1, rx, a, C, dx, fs, v, ex, ea, c, n, l, q⟩ => ?_)
  subst ex
  obtain rfl : u = Value.ref a := rx
  exact getattr_ok I1 ea c n l fun u' s2 I2 ru => ⟨v, H1, I2, ru, q⟩
theorem ps_fld (ha : PE X o ta) (hv : PE X value tv) (hs : swapsWith value (some (.Attribute o f pos')) pos.line X.env = pure false) : PS X (.Assign [.Attribute o f pos'] value pos) (sFld X.K ta tv f) := by
  intro pins s σ H D I h
  refine plainObj_wpAny_Assign_Attribute (thn (hv pins s σ H _ I h) fun u s1 ⟨y, H1, I1, ry, q⟩ => thn (ha pins s1 σ H1 _ I1 q) fun ov s2 ⟨x, H2, I2, rx, a, C, dx, fs, ex, ea, c, n, l, q2⟩ => ?_) hs
  subst ex
  obtain rfl : ov = Value.ref a := rx
  exact setattr_ok I2 ea c n l ry fun s3 I3 => ⟨σ, _, I3, q2⟩
/-- what is between an instance and its method: the tree of a method call -/
theorem methcall_of {pl : Sem Bool} {m : Str} {apos : Pos} {args : List Expr} {pins : List (Addr × Obj)} {s : Shared} {σ : St} {H : Hp} {Q : Value → Shared → Prop} {te : TE} (he : PE X e te) (I : Inv X pins σ H s)
    (h : te σ H fun x H1 => ∃ a C dx fs g, x = .ref a ∧ H1 a = some (.ins C dx fs) ∧ Cls X.K C ∧ Meth X.K C m g ∧ fs.lookup m = none ∧
      ∀ s1, Inv X pins σ H1 s1 → wpAny (model X.prog X.w) X.A (callWith pos (.ref g) [.ref a] (backTo pos (starEach args X.env)) (backToKw pos (keywordEach [] X.env))) Q X.xe s1)
    (ht : eval (.Call (.Attribute e m apos) args [] pos) X.env = (do
      let ov ← eval e X.env
      standAt apos.atName
      let (f, first) ← holding [ov] (getMethod ov m pl)
      callWith pos f first (backTo pos (starEach args X.env)) (backToKw pos (keywordEach [] X.env)))) :
    wpAny (model X.prog X.w) X.A (eval (.Call (.Attribute e m apos) args [] pos) X.env) Q X.xe s := by
  refine PySem.W.methodCall_KW (pl := pl) (thn (he pins s σ H _ I h) fun u s1 ⟨x, H1, I1, rx, a, C, dx, fs, g, ex, ea, c, k, l, q⟩ => ?_) ht
  subst ex
  obtain rfl : u = Value.ref a := rx
  exact getmeth_ok I1 ea c k l (q s1 I1)
end

/-! ### isinstance -/
section
variable {X : Cx} {pins : List (Addr × Obj)} {σ : St} {H : Hp} {s : Shared} {A : Around} {E : Value → Shared → Prop} {Q : Value → Shared → Prop} {c : Value} {b : Bool}
/-- the type of a value, as the fragment's deciders take it; for an instance its class -/
inductive TyOf (K : PySem.W.Frag) (H : Hp) : V → Value → Prop where
  | non : TyOf K H .non (.type "NoneType")
  | bl (x : Bool) : TyOf K H (.bl x) (.type "bool")
  | int (i : Int) : TyOf K H (.int i) (.type "int")
  | str (x : Str) : TyOf K H (.str x) (.type "str")
  | flt (x : UInt64) : TyOf K H (.flt x) (.type "float")
  | lst {a : Addr} {xs : List V} (e : H a = some (.lst xs)) : TyOf K H (.ref a) (.type "list")
  | frz {a : Addr} {o : Obj} {xs : List V} (e : H a = some (.frz o (.lst xs))) : TyOf K H (.ref a) (.type "list")
  | tup {a : Addr} {xs : List V} (e : H a = some (.tup xs)) : TyOf K H (.ref a) (.type "tuple")
  | dK {a : Addr} {kvs : List (Key × V)} (e : H a = some (.dK kvs)) : TyOf K H (.ref a) (.type "dict")
  | dT {a : Addr} {kvs : List (List Key × V)} (e : H a = some (.dT kvs)) : TyOf K H (.ref a) (.type "dict")
  | ins {a C dx : Addr} {fs : List (Str × V)} (e : H a = some (.ins C dx fs)) (cl : Cls K C) (ha : PySem.W.findIn K (.ref C) "__class__" = some (some (.builtin "object.__class__")))
      (hn : PySem.W.specialIn K (.builtin "object.__class__") "__get__" = some (some (.builtin "getset_descriptor.__get__"))) (htk : PySem.W.takesIn K (.builtin "object.__class__") = some true)
      (hm : PySem.W.mroIn K C (.type "object") = some true) : TyOf K H (.ref a) (.ref C)
/-- isinstance(x, c) for one class c, a built-in or an own one: kitOne's answer -/
theorem isinst_ok {x : V} {u t : Value} (I : Inv X pins σ H s) (rx : RelV x u) (ty : TyOf X.K H x t) (e : PySem.W.kitOne X.K t c = some b) (h : ∀ tk, Q (.bool b) { s with toks := tk }) :
    wpAny (model X.prog X.w) A (call (.builtin "isinstance") [u, c]) Q E s := by
  cases ty with
  | non => cases (show u = Value.none from rx); exact PySem.W.kia_one PySem.W.kitx_none I.kIn True.intro e (fun z => nomatch z) h
  | bl y => cases (show u = Value.bool y from rx); exact PySem.W.kia_one PySem.W.kitx_bool I.kIn True.intro e (fun z => nomatch z) h
  | int i => obtain ⟨t, q⟩ := (show ∃ t, u = Value.int i t from rx); cases q; exact PySem.W.kia_one PySem.W.kitx_int I.kIn True.intro e (fun z => nomatch z) h
  | str y => obtain ⟨t, q⟩ := (show ∃ t, u = Value.str y t from rx); cases q; exact PySem.W.kia_one PySem.W.kitx_str I.kIn True.intro e (fun z => nomatch z) h
  | flt y => obtain ⟨t, q⟩ := (show ∃ t, u = Value.float y t from rx); cases q; exact PySem.W.kia_one PySem.W.kitx_float I.kIn True.intro e (fun z => nomatch z) h
  | @lst a xs ea =>
    cases (show u = Value.ref a from rx)
    obtain ⟨_, _, n, _, h1⟩ := (show ObjOk X.prog X.w H s.heap a (.lst xs) from I.hok a _ ea)
    exact PySem.W.kia_one PySem.W.kitx_list I.kIn ⟨_, h1, rfl⟩ e (fun z => nomatch z) h
  | @frz a ob xs ea =>
    cases (show u = Value.ref a from rx)
    obtain ⟨_, _, _, n, _, h1⟩ := (show ObjOk X.prog X.w H s.heap a (.frz ob (.lst xs)) from I.hok a _ ea)
    exact PySem.W.kia_one PySem.W.kitx_list I.kIn ⟨_, h1, rfl⟩ e (fun z => nomatch z) h
  | @tup a xs ea =>
    cases (show u = Value.ref a from rx)
    obtain ⟨_, _, _, p⟩ := (show ObjOk X.prog X.w H s.heap a (.tup xs) from I.hok a _ ea)
    obtain ⟨o, h1, h2, _⟩ := p
    exact PySem.W.kia_one PySem.W.kitx_tuple I.kIn ⟨o, h1, h2⟩ e (fun z => nomatch z) h
  | @dK a kvs ea =>
    cases (show u = Value.ref a from rx)
    obtain ⟨_, _, vs, _, p⟩ := (show ObjOk X.prog X.w H s.heap a (.dK kvs) from I.hok a _ ea)
    obtain ⟨o, es, ep, h1, h2, _⟩ := p
    exact PySem.W.kia_one PySem.W.kitx_dict I.kIn ⟨o, h1, h2.1⟩ e (fun z => nomatch z) h
  | @dT a kvs ea =>
    cases (show u = Value.ref a from rx)
    obtain ⟨_, _, xs, _, o, es, ep, h1, h2, _⟩ := (show ObjOk X.prog X.w H s.heap a (.dT kvs) from I.hok a _ ea)
    exact PySem.W.kia_one PySem.W.kitx_dict I.kIn ⟨o, h1, h2.1⟩ e (fun z => nomatch z) h
  | @ins a C dx fs ea cl ha hn htk hm =>
    cases (show u = Value.ref a from rx)
    obtain ⟨mA, O, _⟩ := ins_get I.hok ea
    obtain ⟨od, J, _⟩ := O.look
    exact PySem.W.kia_one (PySem.W.kitx_own (cl.get _) cl.hd ha hn htk hm) I.kIn J e (fun z => nomatch z) h
end
end L2

namespace L2
open PySem PySem.Spec PyProof.Rows

/-! ### room -/
structure Room (cm : Bool) (k : Nat) (A : Around) : Prop where
  hd : cm = true → A.handled = none
  dp : A.depth + 3 * k + 5 < recursionLimit
  un : A.units + 16 * k + 200 < cLine
theorem Room.mono {cm : Bool} {j k : Nat} {A : Around} (r : Room cm k A) (h : j ≤ k) : Room cm j A := ⟨r.hd, by have := r.dp; omega, by have := r.un; omega⟩
theorem Room.deeper {cm : Bool} {k : Nat} {A : Around} (r : Room cm (k + 1) A) (env : Env) : Room cm k (A.deeper env) :=
  ⟨r.hd, by have := r.dp; show A.depth + 1 + 3 * k + 5 < _; omega, by have := r.un; show A.units + 3 + 16 * k + 200 < _; omega⟩
theorem make_depth {A : Around} {C : Addr} {us : List Value} {kw : List (Str × Value)} : (A.under (.builtin "type.__call__" ⟨.ref C :: us, kw⟩)).depth = A.depth + 1 := by
  first | rfl | simp [Around.under, Code.weight, Code.isCreation, Code.isGuard, Code.isCaller, Code.frames, Code.isFrame, guardIds]
theorem make_units {A : Around} {C : Addr} {us : List Value} {kw : List (Str × Value)} : (A.under (.builtin "type.__call__" ⟨.ref C :: us, kw⟩)).units = A.units + 1 := by
  first | rfl | simp [Around.under, Code.cUnits, Code.frames, Code.isFrame]
theorem Room.make {cm : Bool} {k : Nat} {A : Around} (r : Room cm (k + 1) A) (C : Addr) (us : List Value) (kw : List (Str × Value)) : Room cm k (A.under (.builtin "type.__call__" ⟨.ref C :: us, kw⟩)) :=
  ⟨r.hd, by have := r.dp; rw [make_depth]; omega, by have := r.un; rw [make_units]; omega⟩
theorem Room.depth {cm : Bool} {k : Nat} {A : Around} (r : Room cm k A) : A.depth < recursionLimit := by have := r.dp; omega
theorem Room.units {cm : Bool} {k : Nat} {A : Around} (r : Room cm k A) : A.units + 64 < cLine := by have := r.un; omega
/-! ### argument lists and displays -/
def tNil : TA := fun _ H Q => Q [] H
def tCons (ta : TE) (tr : TA) : TA := fun σ H Q => ta σ H fun x H1 => tr σ H1 fun xs H2 => Q (x :: xs) H2
section
variable {X : Cx} {e : Expr} {es : List Expr} {te : TE} {t : TA} {pos : Pos}
theorem pa_nil : PA X [] tNil := fun _ _ _ _ H Q I h => Calls.spliced_nil ⟨[], H, I, .nil, h⟩
theorem pa_cons (ha : PE X e te) (hr : PA X es t) (hs : starEach (e :: es) X.env = (false, eval e X.env) :: starEach es X.env := by rfl) : PA X (e :: es) (tCons te t) := by
  intro pos pins s σ H Q I h
  rw [hs]
  show wpAny _ _ (spliced ((false, eval e X.env) :: backTo pos (starEach es X.env))) _ _ s
  refine Calls.spliced_cons (thn (ha pins s σ H _ I h) fun u s1 ⟨x, H1, I1, r1, q1⟩ => ?_)
  exact thn (hr pos pins s1 σ H1 _ I1 q1) fun us s2 ⟨xs, H2, I2, r2, q2⟩ => ⟨x :: xs, H2, I2, .cons r1 r2, q2⟩

/-- a tuple, a list of written items -/
def tTup (t : TA) : TE := fun σ H Q => t σ H fun xs H1 => xs.length ≤ sizeLine ∧ ∀ p, H1 p = none → Q (.ref p) (upd H1 p (.tup xs))
def tLst (t : TA) : TE := fun σ H Q => t σ H fun xs H1 => xs.length ≤ sizeLine ∧ ∀ p, H1 p = none → Q (.ref p) (upd H1 p (.lst xs))
theorem pe_tup {x1} (h : PA X es t) : PE X (.Tuple es x1 pos) (tTup t) := by
  intro pins s σ H Q I hq
  refine wpAny_Tuple_spliced (thn (h pos pins s σ H _ I hq) fun us s1 ⟨xs, H1, I1, r, z, q⟩ => ⟨by rw [← r.length]; exact z, ?_⟩)
  have hf : H1 s1.heap.objs.size = none := I1.hok.fresh (Nat.le_refl _)
  refine ⟨.ref s1.heap.objs.size, upd H1 s1.heap.objs.size (.tup xs), I1.laid (t' := s1.toks) (fun b u e => Heap.get?_push_of_some _ e) (Nat.le_refl _) ?_, rfl, q _ hf⟩
  exact ⟨z, us, r, ⟨_, Heap.get?_push_size _ rfl, rfl, _, rfl⟩⟩
theorem pe_lst (h : PA X es t) : PE X (.List es pos) (tLst t) := by
  intro pins s σ H Q I hq
  refine wpAny_List_spliced (thn (h pos pins s σ H _ I hq) fun us s1 ⟨xs, H1, I1, r, z, q⟩ => ⟨by rw [← r.length]; exact z, ?_⟩)
  have hf : H1 s1.heap.objs.size = none := I1.hok.fresh (Nat.le_refl _)
  refine ⟨.ref s1.heap.objs.size, upd H1 s1.heap.objs.size (.lst xs), I1.laid (t' := s1.toks) (fun b u e => Heap.get?_push_of_some _ e) (Nat.le_refl _) ?_, rfl, q _ hf⟩
  exact ⟨z, us, 0, r, Heap.get?_push_size _ rfl⟩
end

/-! ### what a def promises -/
/-- a def's promise: the bound arguments in the parameters' order, the heap, the wanted end, the wanted exception -/
abbrev Sp := List V → Hp → VK → XK → Prop
/-- how an exception lies behind a call (file 08 gives it): the callers' frames, abstract heap and state ahead of the call, the wish, the exception, the state -/
abbrev CXT := List Env → Hp → Shared → XK → Value → Shared → Prop

/-- the state at a call -/
structure Env0 (P : Program) (w : World) (K : PySem.W.Frag) (mg : Str → Option Value) (base : Heap) (A : Around) (outer : List Env) (s : Shared) (H : Hp) : Prop where
  frames : A.frames = some outer
  mod : Mod K mg base
  bs : ∀ b o, base.get? b = some o → s.heap.get? b = some o ∧ H b = none
  bsz : base.objs.size ≤ s.heap.objs.size
  funs : s.heap.FunFrames base outer
  frf : ∀ b ∈ frs outer, H b = none
  hok : HOk P w H s.heap
  bare : AllBare s.gens
/-- a call's end -/
def CE (outer : List Env) (P : Program) (w : World) (H : Hp) (s : Shared) (Q : VK) (u : Value) (s' : Shared) : Prop :=
  ∃ v H', s'.os = s.os ∧ AllBare s'.gens ∧ Un (frs outer) [] H H' s.heap s'.heap ∧ HOk P w H' s'.heap ∧ RelV v u ∧ Q v H'
def CR (CX : CXT) (outer : List Env) (P : Program) (w : World) (H : Hp) (s : Shared) (Q : VK) (E : XK) (r : Result) (s' : Shared) : Prop :=
  match r with
  | .ok (.ret u) => CE outer P w H s Q u s'
  | .ok _ => False
  | .error e => CX outer H s E e s'
structure FnOk (P : Program) (w : World) (K : PySem.W.Frag) (mg : Str → Option Value) (base : Heap) (CX : CXT) (cm : Bool) (k : Nat) (f : Addr) (fd : FuncData) (ps : List Str) (sp : Sp) : Prop where
  len : ∀ vs H Q E, sp vs H Q E → vs.length = ps.length
  run : ∀ (A : Around) (outer : List Env) (s : Shared) (H : Hp) (args : Args) (us : List Value) (vs : List V) (Q : VK) (E : XK), Room cm k A → Env0 P w K mg base A outer s H → BindsTo s fd args (ps.zip us) → Vals vs us → sp vs H Q E →
    codeAny (model P w) A (.call (.ref f) args) (CR CX outer P w H s Q E) s
theorem Env0.make {P : Program} {w : World} {K : PySem.W.Frag} {mg : Str → Option Value} {base : Heap} {A : Around} {outer : List Env} {s : Shared} {H : Hp} (e : Env0 P w K mg base A outer s H) (C : Addr) (us : List Value) (kw : List (Str × Value)) :
    Env0 P w K mg base (A.under (.builtin "type.__call__" ⟨.ref C :: us, kw⟩)) outer s H := ⟨by first | exact e.frames | (simpa [Around.under, Code.envs, Code.isFrame, pushEnvs] using e.frames), e.mod, e.bs, e.bsz, e.funs, e.frf, e.hok, e.bare⟩
section
variable {X : Cx} {pins : List (Addr × Obj)} {σ : St} {H : Hp} {s s' : Shared}
/-- from a body: what a callee wants -/
theorem Inv.env0 (I : Inv X pins σ H s) : Env0 X.prog X.w X.K X.mg X.base X.A X.stack s H :=
  ⟨I.ok.frames, I.ok.mod, I.bs, Nat.le_trans I.ok.bsz I.sz, I.stack, I.stkFree, I.hok, I.bare⟩
/-- behind a call -/
theorem Inv.after {Q : VK} {u : Value} (I : Inv X pins σ H s) (h : CE X.stack X.prog X.w H s Q u s') : EP X pins σ Q u s' := by
  obtain ⟨v, H', os, bare, un, hok, r, q⟩ := h
  obtain ⟨hh, g, d, t, os'⟩ := s'
  obtain rfl : os' = s.os := os
  exact ⟨v, H', I.call (h' := hh) (g' := g) (d' := d) (t' := t) (ch := []) un hok bare (fun b z => absurd z (by simp)), r, q⟩
end

/-! ### calls -/
/-- f(..): the written arguments, then the defaults dvs; E: what is wanted of an exception -/
def tCall (sp : Sp) (dvs : List V) (E : St → XK) (t : TA) : TE := fun σ H Q => t σ H fun vs H1 => sp (vs ++ dvs) H1 Q (E σ)
/-- o.m(..) of an instance of the class at C -/
def tMeth (C : Addr) (m : Str) (sp : Sp) (dvs : List V) (E : St → XK) (ta : TE) (t : TA) : TE := fun σ H Q => ta σ H fun x H1 => ∃ a dx fs, x = .ref a ∧ H1 a = some (.ins C dx fs) ∧ fs.lookup m = none ∧
  t σ H1 fun vs H2 => sp (x :: (vs ++ dvs)) H2 Q (E σ)
/-- C(..): a new instance and its dict, then __init__ -/
def tMake (C : Addr) (sp : Sp) (dvs : List V) (E : St → XK) (t : TA) : TE := fun σ H Q => t σ H fun vs H1 => ∀ x dx, H1 x = none → H1 dx = none → dx ≠ x →
  sp (.ref x :: (vs ++ dvs)) (upd (upd H1 dx (.own x)) x (.ins C dx [])) (fun v H2 => v = .non ∧ Q (.ref x) H2) (E σ)

/-- how the parameters are bound: us the positional arguments, kw the keywords' values by name, ds the defaults that fill up -/
def Binds (K : PySem.W.Frag) (fd : FuncData) (ps : List Str) (ds : List Value) : Prop :=
  ∀ (s : Shared) (us : List Value), K.In s.heap → (us ++ ds).length = ps.length → BindsTo s fd ⟨us, []⟩ (ps.zip (us ++ ds))
/-- every parameter is given -/
theorem Binds.all {K : PySem.W.Frag} {fd : FuncData} {ps : List Str} (h : ∀ us : List Value, us.length = ps.length → bindArgs fd ⟨us, []⟩ = pure (ps.zip us)) : Binds K fd ps [] := fun s us _ hl => by
  rw [List.append_nil] at hl ⊢
  exact .of_eq (h us hl)

/-- an exception of a callee reaches what this body wants of exceptions -/
def Passes (CX : CXT) (X : Cx) (E : St → XK) : Prop := ∀ (pins : List (Addr × Obj)) (σ : St) (H : Hp) (s : Shared) (e : Value) (s' : Shared), Inv X pins σ H s → CX X.stack H s (E σ) e s' → X.xe e s'

section
variable {X : Cx} {CX : CXT} {cm : Bool} {k : Nat} {f C : Addr} {fd : FuncData} {ps : List Str} {sp : Sp} {dvs : List V} {ds : List Value} {E : St → XK} {x m : Str} {p pos apos : Pos} {e o : Expr} {es : List Expr} {ta : TE} {t : TA}

/-- the callee runs -/
theorem run_fn {pins : List (Addr × Obj)} {σ : St} {H : Hp} {s : Shared} {Q : VK} {us : List Value} {vs : List V} (F : FnOk X.prog X.w X.K X.mg X.base CX cm k f fd ps sp) (hr : Room cm k X.A) (hb : Binds X.K fd ps ds) (hd : Vals dvs ds) (hx : Passes CX X E)
    (I : Inv X pins σ H s) (r : Vals vs us) (h : sp (vs ++ dvs) H Q (E σ)) : wpAny (model X.prog X.w) X.A (call (.ref f) us) (EP X pins σ Q) X.xe s := by
  have r2 : Vals (vs ++ dvs) (us ++ ds) := r.append hd
  have hl : (us ++ ds).length = ps.length := by rw [← r2.length]; exact F.len _ _ _ _ h
  refine wpAny_call (codeAny_mono (F.run X.A X.stack s H ⟨us, []⟩ (us ++ ds) (vs ++ dvs) Q (E σ) hr I.env0 (hb s us I.kIn hl) r2 h) fun r s' hq => ?_)
  cases r with
  | error e => exact hx pins σ H s e s' I hq
  | ok fl =>
    cases fl with
    | ret u => exact I.after hq
    | next => exact False.elim hq
    | brk => exact False.elim hq
    | cont => exact False.elim hq

theorem pe_call (F : FnOk X.prog X.w X.K X.mg X.base CX cm k f fd ps sp) (hr : Room cm k X.A) (hg : Gl X x) (hm : X.mg x = some (.ref f)) (hk : PySem.W.keepIn X.K (.ref f) = true) (hb : Binds X.K fd ps ds) (hd : Vals dvs ds) (hx : Passes CX X E)
    (ha : PA X (e :: es) t) (hdb : (x == ("__debug__" : Str)) = false := by decide) (he : starEach (e :: es) X.env = (false, eval e X.env) :: starEach es X.env := by rfl) (hpl : (backTo pos (starEach es X.env)).any (·.1) = false := by rfl) :
    PE X (.Call (.Name x p) (e :: es) [] pos) (tCall sp dvs E t) := by
  intro pins s σ H Q I h
  refine wpAny_Call_Name_kw (ld_glob I hg hm ?_ hdb)
  refine PySem.W.callWith_K (h₀ := X.base) I.ok.mod.kin hk (thn (ha pos pins s σ H _ I h) fun us s1 ⟨vs, H1, I1, r, q⟩ => ⟨I1.kIn, ?_⟩) he hpl
  exact run_fn F hr hb hd hx I1 r q
/-- o.m(e, ..) -/
theorem pe_meth {pl : Sem Bool} (he : PE X o ta) (c : Cls X.K C) (hm : Meth X.K C m f) (F : FnOk X.prog X.w X.K X.mg X.base CX cm k f fd ps sp) (hr : Room cm k X.A) (hb : Binds X.K fd ps ds) (hd : Vals dvs ds) (hx : Passes CX X E) (ha : PA X (e :: es) t)
    (hst : starEach (e :: es) X.env = (false, eval e X.env) :: starEach es X.env := by rfl) (hpl : (backTo pos (starEach es X.env)).any (·.1) = false := by rfl)
    (ht : eval (.Call (.Attribute o m apos) (e :: es) [] pos) X.env = (do
      let ov ← eval o X.env
      standAt apos.atName
      let (f, first) ← holding [ov] (getMethod ov m pl)
      callWith pos f first (backTo pos (starEach (e :: es) X.env)) (backToKw pos (keywordEach [] X.env))) := by rfl) :
    PE X (.Call (.Attribute o m apos) (e :: es) [] pos) (tMeth C m sp dvs E ta t) := by
  intro pins s σ H Q I h
  refine PySem.W.methodCall_KW (pl := pl) (thn (he pins s σ H _ I h) fun u s1 ⟨x, H1, I1, rx, a, dx, fs, ex, ea, l, q⟩ => ?_) ht
  subst ex
  obtain rfl : u = Value.ref a := rx
  refine getmeth_ok I1 ea c hm l ?_
  refine PySem.W.callWith_K (first := [.ref a]) (h₀ := X.base) I.ok.mod.kin hm.kp (thn (ha pos pins s1 σ H1 _ I1 q) fun us s2 ⟨vs, H2, I2, r, q2⟩ => ⟨I2.kIn, ?_⟩) hst hpl
  exact run_fn (us := .ref a :: us) (vs := .ref a :: vs) F hr hb hd hx I2 (.cons rfl r) q2
/-- what a class must have to be made -/
structure Mk (K : PySem.W.Frag) (C f : Addr) : Prop where
  makes : PySem.W.makesIn K C = true
  init : PySem.W.findIn K (.ref C) "__init__" = some (some (.ref f))
  fn : PySem.W.isFn K (.ref f) = true
  kp : PySem.W.keepIn K (.ref C) = true

theorem run_make {pins : List (Addr × Obj)} {σ : St} {H : Hp} {s : Shared} {Q : VK} {us : List Value} {vs : List V} (M : Mk X.K C f) (F : FnOk X.prog X.w X.K X.mg X.base CX cm k f fd ps sp) (hr : Room cm (k + 1) X.A) (hb : Binds X.K fd ps ds) (hd : Vals dvs ds)
    (hx : Passes CX X E) (I : Inv X pins σ H s) (r : Vals vs us)
    (h : ∀ x dx, H x = none → H dx = none → dx ≠ x → sp (.ref x :: (vs ++ dvs)) (upd (upd H dx (.own x)) x (.ins C dx [])) (fun v H2 => v = .non ∧ Q (.ref x) H2) (E σ)) :
    wpAny (model X.prog X.w) X.A (call (.ref C) us) (EP X pins σ Q) X.xe s := by
  have hq := h (s.heap.objs.size + 1) s.heap.objs.size (I.hok.fresh (Nat.le_succ _)) (I.hok.fresh (Nat.le_refl _)) (Nat.ne_of_lt (Nat.lt_succ_self _))
  have I2 := Inv.made (C := C) I
  have r2 : Vals (V.ref (s.heap.objs.size + 1) :: (vs ++ dvs)) (Value.ref (s.heap.objs.size + 1) :: (us ++ ds)) := .cons rfl (r.append hd)
  have hl : (Value.ref (s.heap.objs.size + 1) :: us ++ ds).length = ps.length := by
    have e := r2.length
    rw [F.len _ _ _ _ hq] at e
    exact e.symm
  refine wpAny_call (make_map (f := f) I.kIn M.makes M.init (beq_iff_eq.mp M.fn) (codeAny_mono (F.run _ X.stack _ _ ⟨Value.ref (s.heap.objs.size + 1) :: us, []⟩ (Value.ref (s.heap.objs.size + 1) :: (us ++ ds)) _ _ (E σ) (hr.make C us [])
    (I2.env0.make C us []) (hb _ (Value.ref (s.heap.objs.size + 1) :: us) I2.kIn hl) r2 hq) fun r s' hq' => ?_))
  cases r with
  | error e => exact hx pins σ _ _ e s' I2 hq'
  | ok fl =>
    cases fl with
    | ret u =>
      obtain ⟨v, H', I3, rv, ev, q3⟩ := I2.after hq'
      subst ev
      exact ⟨rv, ⟨V.ref (s.heap.objs.size + 1), H', I3, rfl, q3⟩⟩
    | next => exact False.elim hq'
    | brk => exact False.elim hq'
    | cont => exact False.elim hq'
theorem pe_make (M : Mk X.K C f) (F : FnOk X.prog X.w X.K X.mg X.base CX cm k f fd ps sp) (hr : Room cm (k + 1) X.A) (hg : Gl X x) (hm : X.mg x = some (.ref C)) (hb : Binds X.K fd ps ds) (hd : Vals dvs ds) (hx : Passes CX X E)
    (ha : PA X (e :: es) t) (hdb : (x == ("__debug__" : Str)) = false := by decide) (he : starEach (e :: es) X.env = (false, eval e X.env) :: starEach es X.env := by rfl) (hpl : (backTo pos (starEach es X.env)).any (·.1) = false := by rfl) :
    PE X (.Call (.Name x p) (e :: es) [] pos) (tMake C sp dvs E t) := by
  intro pins s σ H Q I h
  refine wpAny_Call_Name_kw (ld_glob I hg hm ?_ hdb)
  refine PySem.W.callWith_K (h₀ := X.base) I.ok.mod.kin M.kp (thn (ha pos pins s σ H _ I h) fun us s1 ⟨vs, H1, I1, r, q⟩ => ⟨I1.kIn, ?_⟩) he hpl
  exact run_make M F hr hb hd hx I1 r q
end

/-! ### keywords -/
section
variable {X : Cx} {CX : CXT} {cm : Bool} {k : Nat} {f C : Addr} {fd : FuncData} {ps ks : List Str} {sp : Sp} {E : St → XK} {x m : Str} {p pos apos kpos : Pos} {e o : Expr} {es : List Expr} {kws : List Keyword} {te ta : TE} {t tk : TA} {nm : Option Str}
variable {g : List Value → List Value → List Value} {gV : List V → List V → List V}
end

/-! ### a def's body keeps its promise -/
/-- names: the parameters first -/
structure FnScope (N P : List Str) (sc : Scope) : Prop where
  kind : sc.kind = .function
  co : sc.isCoroutine = false
  gen : sc.isGenerator = false
  nd : N.Nodup
  pre : N.take P.length = P
  par : ∀ x ∈ P, sc.names.lookup x = some .local ∨ sc.names.lookup x = some .cell
  nofree : ∀ y ∈ sc.names, y.2 ≠ .free

theorem bindL_out {kindOf : Str → Option NameKind} {x : Str} : ∀ {binds : List (Str × Value)} {m : Str → Option Value}, (∀ v, (x, v) ∉ binds) → bindL kindOf binds m x = m x
  | [], _, _ => rfl
  | (n, v) :: r, m, h => by
    unfold bindL
    rw [bindL_out fun w hw => h w (List.mem_cons_of_mem _ hw)]
    split
    · have : x ≠ n := by rintro rfl; exact h v List.mem_cons_self
      simp [this]
    · rfl
theorem bindC_out {kindOf : Str → Option NameKind} {x : Str} : ∀ {binds : List (Str × Value)} {m : Str → Option Value}, (∀ v, (x, v) ∉ binds) → bindC kindOf binds m x = m x
  | [], _, _ => rfl
  | (n, v) :: r, m, h => by
    unfold bindC
    rw [bindC_out fun w hw => h w (List.mem_cons_of_mem _ hw)]
    split
    · rfl
    · have : x ≠ n := by rintro rfl; exact h v List.mem_cons_self
      simp [this]
theorem bindL_get {kindOf : Str → Option NameKind} {x : Str} {v : Value} : ∀ {P : List Str} {vs : List Value} {i : Nat} {m : Str → Option Value}, P.Nodup → P[i]? = some x → vs[i]? = some v → kindOf x = some .local →
    bindL kindOf (P.zip vs) m x = some v
  | [], _, _, _, _, h, _, _ => by simp at h
  | _ :: _, [], _, _, _, _, h, _ => by simp at h
  | p :: P, w :: vs, 0, m, nd, h1, h2, hk => by
    simp at h1 h2; subst h1; subst h2
    show bindL kindOf ((p, w) :: P.zip vs) m p = _
    unfold bindL
    rw [bindL_out fun v hv => (List.nodup_cons.mp nd).1 (List.of_mem_zip hv).1, if_pos hk]
    simp
  | p :: P, w :: vs, i + 1, m, nd, h1, h2, hk => by
    show bindL kindOf ((p, w) :: P.zip vs) m x = _
    unfold bindL
    exact bindL_get (i := i) (List.nodup_cons.mp nd).2 (by simpa using h1) (by simpa using h2) hk
theorem bindC_get {kindOf : Str → Option NameKind} {x : Str} {v : Value} : ∀ {P : List Str} {vs : List Value} {i : Nat} {m : Str → Option Value}, P.Nodup → P[i]? = some x → vs[i]? = some v → kindOf x ≠ some .local →
    bindC kindOf (P.zip vs) m x = some v
  | [], _, _, _, _, h, _, _ => by simp at h
  | _ :: _, [], _, _, _, _, h, _ => by simp at h
  | p :: P, w :: vs, 0, m, nd, h1, h2, hk => by
    simp at h1 h2; subst h1; subst h2
    show bindC kindOf ((p, w) :: P.zip vs) m p = _
    unfold bindC
    rw [bindC_out fun v hv => (List.nodup_cons.mp nd).1 (List.of_mem_zip hv).1, if_neg hk]
    simp
  | p :: P, w :: vs, i + 1, m, nd, h1, h2, hk => by
    show bindC kindOf ((p, w) :: P.zip vs) m x = _
    unfold bindC
    exact bindC_get (i := i) (List.nodup_cons.mp nd).2 (by simpa using h1) (by simpa using h2) hk

/-- the names' values at the entry -/
def start (N : List Str) (vs : List V) : St := vs.map some ++ List.replicate (N.length - vs.length) none

/-- the context of a def's body, at its entry; an exception leaves the frame, then lies as CX says -/
def cxOf (CX : CXT) (cm : Bool) (P : Program) (w : World) (K : PySem.W.Frag) (mg : Str → Option Value) (base : Heap) (N : List Str) (qual : Str) (scope : Scope) (f : Addr) (cd : Value) (A : Around) (outer : List Env) (s : Shared) (H : Hp) (E : XK) : Cx where
  prog := P
  w := w
  K := K
  mg := mg
  base := base
  A := A.deeper (envOfC qual scope s.heap.objs.size f cd)
  N := N
  s₀ := s
  H₀ := H
  env := envOfC qual scope s.heap.objs.size f cd
  outer := outer
  stack := envOfC qual scope s.heap.objs.size f cd :: outer
  ex := []
  calm := cm
  fn := fun _ => true
  pn := []
  xe := fun e s' => wpAny (model P w) (A.deeper (envOfC qual scope s.heap.objs.size f cd)) (leaving (envOfC qual scope s.heap.objs.size f cd) e) (fun _ s'' => CX outer H s E e s'') (fun e' s'' => CX outer H s E e' s'') s'

theorem cell_has {sc : Scope} {n : Nat} {x : Str} (h : sc.names.lookup x = some .cell) : ∃ c, (cellsFrom n sc.names []).lookup x = some c := by
  have q := PySem.W.cellsFrom_some sc.names n [] (.inl h)
  exact Option.isSome_iff_exists.mp q

theorem inv_start {CX : CXT} {cm : Bool} {P : Program} {w : World} {K : PySem.W.Frag} {mg : Str → Option Value} {base : Heap} {N ps : List Str} {qual : Str} {scope : Scope} {f : Addr} {cd : Value} {A : Around} {outer : List Env} {s s1 : Shared} {H : Hp} {E : XK} {us : List Value} {vs : List V}
    (S : FnScope N ps scope) (hd : cm = true → A.handled = none) (e0 : Env0 P w K mg base A outer s H) (hl : vs.length = ps.length) (r : Vals vs us)
    (x : InCallC s s.heap.objs.size (bindL (envOfC qual scope s.heap.objs.size f cd).kindOf (ps.zip us) fun _ => none) (cellsFrom (s.heap.objs.size + 1) scope.names []) (bindC (envOfC qual scope s.heap.objs.size f cd).kindOf (ps.zip us) fun _ => none) s1) :
    Inv (cxOf CX cm P w K mg base N qual scope f cd A outer s H E) [] (start N vs) H s1 := by
  have hpl : ps.length ≤ N.length := by have := congrArg List.length S.pre; rw [List.length_take] at this; omega
  obtain ⟨h1, tk, rfl, hk⟩ := x.done
  have noA : ∀ b : Addr, b ∉ (cxOf CX cm P w K mg base N qual scope f cd A outer s H E).ex := fun b z => absurd (show b ∈ ([] : List Addr) from z) (by simp)
  refine ⟨⟨e0.mod, S.kind, rfl, rfl, Nat.le_refl _, fun y z c h1 h2 => ?_, fun y hy => ?_, fun y c _ h => ?_, fun z => hd z, Around.frames_deeper e0.frames, .inr ⟨rfl, rfl⟩, fun b z => absurd z (noA b), e0.bs, e0.bsz, fun b _ _ => noA b, fun b z => absurd z (noA b), e0.funs, e0.frf⟩,
    rfl, e0.bare, Un.kept hk, ⟨_, x.toInCall.ns, fun i y v h1 h2 h3 => ?_⟩, fun y c h => ⟨_, x.cell y c h⟩, e0.hok.fresh (Nat.le_refl _), fun y c h => ?_, fun p hp => absurd (show p ∈ ([] : List (Addr × Obj)) from hp) (by simp), e0.hok.kept hk, ?_⟩
  · exact name_of_addr x.apart (PySem.mem_of_lookup h1) (PySem.mem_of_lookup h2)
  · have hy : scope.names.lookup y = some .cell ∨ scope.names.lookup y = some .free := hy
    rcases hy with hy | hy
    · exact cell_has hy
    · exact absurd rfl (S.nofree _ (PySem.mem_of_lookup hy))
  · exact Nat.le_of_lt (x.above y c (PySem.mem_of_lookup h))
  · have hi : i < vs.length := by
      unfold start at h2
      by_cases hi : i < vs.length
      · exact hi
      · rw [List.getElem?_append_right (by simpa using hi)] at h2
        rw [List.getElem?_replicate] at h2
        split at h2 <;> cases h2
    have ha : vs[i]? = some v := by
      unfold start at h2
      rw [List.getElem?_append_left (by simpa using hi), List.getElem?_map] at h2
      cases e : vs[i]? with
      | none => rw [e] at h2; cases h2
      | some a => rw [e] at h2; cases h2; rfl
    obtain ⟨u, hu, rv⟩ := r.get ha
    have hp : ps[i]? = some y := by
      rw [← S.pre, List.getElem?_take_of_lt (by omega)]; exact h1
    have ndP : ps.Nodup := by rw [← S.pre]; exact S.nd.sublist (List.take_sublist _ _)
    refine ⟨u, rv, ?_⟩
    rcases S.par y (List.mem_of_getElem? hp) with k | k
    · exact .inl ⟨k, bindL_get ndP hp hu k⟩
    · obtain ⟨c, e⟩ := cell_has (n := s.heap.objs.size + 1) k
      refine .inr ⟨.inl k, c, e, ?_⟩
      have q := x.cell y c e
      rw [bindC_get ndP hp hu (by show scope.names.lookup y ≠ _; rw [k]; decide)] at q
      exact q
  · exact e0.hok.fresh (Nat.le_of_lt (x.above y c (PySem.mem_of_lookup h)))
  · unfold start
    show _ = N.length
    rw [List.length_append, List.length_map, List.length_replicate]
    omega

/-- THE RULE: a def (or a method) of the text, by its body. The body's reading t is chosen for each entry; it is run at the parameters' values -/
theorem fn_of {CX : CXT} {cm : Bool} {P : Program} {w : World} {K : PySem.W.Frag} {mg : Str → Option Value} {base : Heap} {k : Nat} {f : Addr} {name qual : Str} {params : Arguments} {body : List Stmt} {scope : Scope} {dV kV doc pm cdv ct oc : Value} {an od : Option Addr}
    {osl : Array (Option Value)} {N ps : List Str} {sp : Sp} (lk : K.lookup f = some ⟨oc, od, .func (PySem.W.fnOf name qual params body scope dV kV doc pm an cdv ct), osl⟩) (hcd : PySem.W.codeIn K cdv qual = true) (S : FnScope N ps scope)
    (len : ∀ vs H Q E, sp vs H Q E → vs.length = ps.length)
    (hbody : ∀ (A : Around) (outer : List Env) (s : Shared) (H : Hp) (vs : List V) (Q : VK) (E : XK), Room cm k (A.deeper (envOfC qual scope s.heap.objs.size f cdv)) → sp vs H Q E →
      ∃ t, PSs (cxOf CX cm P w K mg base N qual scope f cdv A outer s H E) body t ∧ t { nx := fun _ H' => Q .non H', rt := Q } (start N vs) H) :
    FnOk P w K mg base CX cm (k + 1) f (PySem.W.fnOf name qual params body scope dV kV doc pm an cdv ct) ps sp := by
  refine ⟨len, fun A outer s H args us vs Q E hr e0 hb r hsp => ?_⟩
  have hl := len _ _ _ _ hsp
  have KX : K.In s.heap := e0.mod.kin.keeps fun b o e => (e0.bs b o e).1
  have lim : s.heap.NoLimit := e0.mod.nolimit.keeps fun b o e => (e0.bs b o e).1
  have hkind : ∀ y ∈ ps.zip us, scope.names.lookup y.1 = some .local ∨ (scope.names.lookup y.1 = some .cell ∧ ((cellsFrom (s.heap.objs.size + 1) scope.names []).lookup y.1).isSome = true) := fun ⟨n, v⟩ hy => by
    rcases S.par n (List.of_mem_zip hy).1 with q | q
    · exact .inl q
    · exact .inr ⟨q, PySem.W.cellsFrom_some _ _ _ (.inl q)⟩
  refine codeAny_call_function hr.depth (KX _ _ lk) rfl S.co S.gen rfl (PySem.W.codeRec_of KX hcd) (hb _ _ _ _ ?_)
  refine wpAny_newFunctionEnv_cells S.kind hkind fun env he s1 x => ?_
  subst he
  refine ⟨lim.keeps x.toInCall.keep, codeAny_func ?_⟩
  obtain ⟨t, ht, hq⟩ := hbody A outer s H vs Q E (hr.deeper _) hsp
  have I : Inv (cxOf CX cm P w K mg base N qual scope f cdv A outer s H E) [] (start N vs) H s1 := inv_start S hr.hd e0 hl r x
  refine wpAny_mono (ht [] s1 (start N vs) H _ I hq) (fun fl s' hs => ?_) fun e s' hs => hs
  have fin : ∀ {σ' : St} {H' : Hp} {v : V} {u : Value}, Inv (cxOf CX cm P w K mg base N qual scope f cdv A outer s H E) [] σ' H' s' → RelV v u → Q v H' → CE outer P w H s Q u s' :=
    fun {σ' H' v u} J rv q => ⟨v, H', J.os, J.bare, J.base, J.hok, rv, q⟩
  cases fl with
  | ret u =>
    obtain ⟨v, σ', H', J, rv, q⟩ := hs
    exact fin J rv q
  | next =>
    obtain ⟨σ', H', J, q⟩ := hs
    exact fin (v := V.non) (u := Value.none) J rfl q
  | brk =>
    obtain ⟨_, _, _, q⟩ := hs
    exact False.elim q
  | cont =>
    obtain ⟨_, _, _, q⟩ := hs
    exact False.elim q
end L2

namespace L2
open PySem PySem.Spec PyProof.Rows
section
variable {X : Cx} {x : Str} {p pos : Pos} {e : Expr} {es : List Expr} {t : TA} {id T : String} {r : List V → Hp → VK → Prop}

def tCB (r : List V → Hp → VK → Prop) (t : TA) : TE := fun σ H Q => t σ H fun vs H1 => r vs H1 Q
/-- f(e, ..), f a built-in function -/
theorem pe_callB (hc : CallR X (.builtin id) r) (hg : Gl X x) (hm : X.mg x = none) (hv : bootBuiltins x = some (.builtin id)) (ha : PA X (e :: es) t) (hn : x ≠ "__name__" := by decide) (hdb : (x == ("__debug__" : Str)) = false := by decide)
    (he : starEach (e :: es) X.env = (false, eval e X.env) :: starEach es X.env := by rfl) (hpl : (backTo pos (starEach es X.env)).any (·.1) = false := by rfl) : PE X (.Call (.Name x p) (e :: es) [] pos) (tCB r t) := by
  intro pins s σ H Q I h
  refine wpAny_Call_Name_kw (ld_blt I hg hm hv ?_ hn hdb)
  exact PyProof.Rows.callWith_builtin1 (thn (ha pos pins s σ H _ I h) fun us s1 ⟨vs, H1, I1, r1, q1⟩ => hc pins s1 σ H1 vs us Q I1 r1 q1) he hpl
/-- T(e, ..), T a built-in type -/
theorem pe_callTy (hc : CallR X (.type T) r) (hg : Gl X x) (hm : X.mg x = none) (hv : bootBuiltins x = some (.type T)) (ha : PA X (e :: es) t) (hn : x ≠ "__name__" := by decide) (hdb : (x == ("__debug__" : Str)) = false := by decide)
    (he : starEach (e :: es) X.env = (false, eval e X.env) :: starEach es X.env := by rfl) (hpl : (backTo pos (starEach es X.env)).any (·.1) = false := by rfl) : PE X (.Call (.Name x p) (e :: es) [] pos) (tCB r t) := by
  intro pins s σ H Q I h
  refine wpAny_Call_Name_kw (ld_blt I hg hm hv ?_ hn hdb)
  exact PyProof.Rows.callWith_type1 (thn (ha pos pins s σ H _ I h) fun us s1 ⟨vs, H1, I1, r1, q1⟩ => hc pins s1 σ H1 vs us Q I1 r1 q1) he hpl
end
end L2

namespace L2
open PySem PySem.Spec PyProof.Rows

/-! ### lists of pairs as tables -/
section
variable {κ : Type} [DecidableEq κ]
def valV (kvs : List (κ × V)) (k : κ) : Option V := (kvs.find? fun kv => decide (kv.1 = k)).map (·.2)
/-- in its place, or at the end -/
def putK (kvs : List (κ × V)) (k : κ) (v : V) : List (κ × V) :=
  if (kvs.any fun kv => decide (kv.1 = k)) = true then kvs.map (fun kv => if kv.1 = k then (kv.1, v) else kv) else kvs ++ [(k, v)]
theorem valV_nil {k : κ} : valV ([] : List (κ × V)) k = none := rfl
theorem valV_pos {p : κ × V} {r : List (κ × V)} {k : κ} (e : p.1 = k) : valV (p :: r) k = some p.2 := by simp [valV, List.find?_cons, e]
theorem valV_neg {p : κ × V} {r : List (κ × V)} {k : κ} (e : ¬ p.1 = k) : valV (p :: r) k = valV r k := by simp [valV, List.find?_cons, e]
theorem valV_any (k : κ) : ∀ kvs : List (κ × V), (kvs.any fun kv => decide (kv.1 = k)) = (valV kvs k).isSome
  | [] => rfl
  | p :: r => by
    rw [List.any_cons]
    by_cases e : p.1 = k
    · simp only [valV_pos e, decide_eq_true e, Bool.true_or, Option.isSome_some]
    · rw [valV_neg e, decide_eq_false e, Bool.false_or]; exact valV_any k r
theorem length_putK (kvs : List (κ × V)) (k : κ) (v : V) : (putK kvs k v).length ≤ kvs.length + 1 := by
  unfold putK
  split
  · rw [List.length_map]; omega
  · rw [List.length_append, List.length_cons, List.length_nil]; omega
theorem putK_new {kvs : List (κ × V)} {k : κ} (v : V) (h : valV kvs k = none) : putK kvs k v = kvs ++ [(k, v)] := by
  unfold putK
  rw [valV_any, h]
  exact if_neg (by decide)

theorem RelO.isSome_eq {o : Option V} {u : Option Value} (r : RelO o u) : o.isSome = u.isSome := by
  cases o with
  | none => cases u with
    | none => rfl
    | some _ => exact (show False from r).elim
  | some _ => cases u with
    | none => exact (show False from r).elim
    | some _ => rfl
theorem RelO.getD {o : Option V} {u : Option Value} {d : V} {d' : Value} (r : RelO o u) (rd : RelV d d') : RelV (o.getD d) (u.getD d') := by
  cases o with
  | none => cases u with
    | none => exact rd
    | some _ => exact (show False from r).elim
  | some _ => cases u with
    | none => exact (show False from r).elim
    | some _ => exact r

/-- raw tables of the same keys -/
theorem KV.val {kvs : List (κ × V)} {vs : List (κ × Value)} (r : KV kvs vs) (k : κ) : RelO (valV kvs k) (valueAt vs k) := by
  unfold KV at r
  induction r with
  | nil => exact True.intro
  | @cons p q ps qs h t ih =>
    obtain ⟨h1, h2⟩ := h
    by_cases e : p.1 = k
    · have e' : q.1 = k := h1.symm.trans e
      have b : valueAt (q :: qs) k = some q.2 := by simp [valueAt, List.find?_cons, e']
      rw [valV_pos e, b]; exact h2
    · have e' : ¬ q.1 = k := fun z => e (h1.trans z)
      have b : valueAt (q :: qs) k = valueAt qs k := by simp [valueAt, List.find?_cons, e']
      rw [valV_neg e, b]; exact ih
theorem KV.any {kvs : List (κ × V)} {vs : List (κ × Value)} (r : KV kvs vs) (k : κ) : (kvs.any fun kv => decide (kv.1 = k)) = vs.any fun kv => decide (kv.1 = k) := by
  unfold KV at r
  induction r with
  | nil => rfl
  | cons h t ih => rw [List.any_cons, List.any_cons, ih, h.1]
theorem KV.repl {kvs : List (κ × V)} {vs : List (κ × Value)} (r : KV kvs vs) (k : κ) {y : V} {u : Value} (ry : RelV y u) :
    KV (kvs.map fun kv => if kv.1 = k then (kv.1, y) else kv) (vs.map fun kv => if kv.1 = k then (kv.1, u) else kv) := by
  unfold KV at r ⊢
  induction r with
  | nil => exact .nil
  | @cons p q ps qs h t ih =>
    rw [List.map_cons, List.map_cons]
    refine .cons ?_ ih
    obtain ⟨h1, h2⟩ := h
    by_cases e : p.1 = k
    · rw [if_pos e, if_pos (h1.symm.trans e)]; exact ⟨h1, ry⟩
    · rw [if_neg e, if_neg (fun z => e (h1.trans z))]; exact ⟨h1, h2⟩
theorem KV.put {kvs : List (κ × V)} {vs : List (κ × Value)} (r : KV kvs vs) (k : κ) {y : V} {u : Value} (ry : RelV y u) : KV (putK kvs k y) (stored vs k u) := by
  unfold putK stored
  rw [r.any k]
  by_cases e : (vs.any fun kv => decide (kv.1 = k)) = true
  · rw [if_pos e, if_pos e]; exact r.repl k ry
  · rw [if_neg e, if_neg e]; exact Paired.snoc r ⟨rfl, ry⟩
theorem KV.length {kvs : List (κ × V)} {vs : List (κ × Value)} (r : KV kvs vs) : kvs.length = vs.length := Paired.length r
end


/-! ### a tracked dict, its keys ints and texts or tuples of these -/
theorem kV_is {P : Program} {w : World} {k : Key} {u : Value} (r : RelV (kV k) u) : (mixKind P w).is k u = true := by
  cases k with
  | inl i => obtain ⟨t, e⟩ := (show ∃ t, u = Value.int i t from r); subst e; exact mixKind_int P w i t
  | inr x => obtain ⟨t, e⟩ := (show ∃ t, u = Value.str x t from r); subst e; exact mixKind_str P w x t
theorem items_are {P : Program} {w : World} : ∀ {ks : List Key} {us : List Value}, Vals (ks.map kV) us → ItemsAre (mixKind P w) ks us
  | [], _, r => by rw [List.map_nil] at r; cases r; exact .nil
  | k :: ks, _, r => by
    rw [List.map_cons] at r
    cases r with
    | cons h t => exact .cons (kV_is h) (items_are t)

/-- raw entries of a dict with tuple keys -/
abbrev KT (H : Hp) : List (List Key × V) → List (List Key × Addr × Value) → Prop := Paired fun p q => p.1 = q.1 ∧ H q.2.1 = some (.tup (p.1.map kV)) ∧ RelV p.2 q.2.2
theorem KT.val {H : Hp} {kvs : List (List Key × V)} {xs : List (List Key × Addr × Value)} (r : KT H kvs xs) (k : List Key) : RelO (valV kvs k) ((atKey xs k).map (·.2)) := by
  induction r with
  | nil => exact True.intro
  | @cons p q ps qs h t ih =>
    obtain ⟨h1, _, h2⟩ := h
    by_cases e : p.1 = k
    · have e' : q.1 = k := h1.symm.trans e
      have b : atKey (q :: qs) k = some q.2 := by simp [atKey, List.find?_cons, e']
      rw [valV_pos e, b]; exact h2
    · have e' : ¬ q.1 = k := fun z => e (h1.trans z)
      have b : atKey (q :: qs) k = atKey qs k := by simp [atKey, List.find?_cons, e']
      rw [valV_neg e, b]; exact ih
theorem KT.repl {H : Hp} {kvs : List (List Key × V)} {xs : List (List Key × Addr × Value)} (r : KT H kvs xs) (k : List Key) {y : V} {u : Value} (ry : RelV y u) :
    KT H (kvs.map fun kv => if kv.1 = k then (kv.1, y) else kv) (xs.map (putAt k u)) := by
  induction r with
  | nil => exact .nil
  | @cons p q ps qs h t ih =>
    rw [List.map_cons, List.map_cons]
    refine .cons ?_ ih
    obtain ⟨h1, h2, h3⟩ := h
    unfold putAt
    by_cases e : p.1 = k
    · rw [if_pos e, if_pos (h1.symm.trans e)]; exact ⟨h1, h2, ry⟩
    · rw [if_neg e, if_neg (fun z => e (h1.trans z))]; exact ⟨h1, h2, h3⟩
theorem KT.put {H : Hp} {kvs : List (List Key × V)} {xs : List (List Key × Addr × Value)} (r : KT H kvs xs) (k : List Key) {b : Addr} {y : V} {u : Value} (hb : H b = some (.tup (k.map kV))) (ry : RelV y u) :
    KT H (putK kvs k y) (storedH xs k b u) := by
  have e : (kvs.any fun kv => decide (kv.1 = k)) = (atKey xs k).isSome := by
    rw [valV_any, (r.val k).isSome_eq, Option.isSome_map]
  unfold putK storedH
  rw [e]
  by_cases q : (atKey xs k).isSome = true
  · rw [if_pos q, if_pos q]; exact r.repl k ry
  · rw [if_neg q, if_neg q]; exact Paired.snoc r ⟨rfl, hb, ry⟩
theorem KT.keeps {H H' : Hp} {kvs : List (List Key × V)} {xs : List (List Key × Addr × Value)} (r : KT H kvs xs) (ht : ∀ b ys, H b = some (.tup ys) → H' b = some (.tup ys)) : KT H' kvs xs :=
  Paired.mapP r fun _ _ z => ⟨z.1, ht _ _ z.2.1, z.2.2⟩

section
variable {P : Program} {w : World} {H : Hp} {h : Heap} {a : Addr}
theorem rd_of {u : HO} (ok : HOk P w H h) (e : Rd H a u) : ObjOk P w H h a u := e.ok ok
theorem dk_rd {kvs : List (Key × V)} (ok : HOk P w H h) (e : Rd H a (.dK kvs)) : kvs.length ≤ sizeLine ∧ (a == sysModules) = false ∧ ∃ vs, KV kvs vs ∧ h.DictOf (mixKind P w) a vs :=
  show ObjOk P w H h a (.dK kvs) from rd_of ok e
theorem dk_of {kvs : List (Key × V)} (ok : HOk P w H h) (e : H a = some (.dK kvs)) : kvs.length ≤ sizeLine ∧ (a == sysModules) = false ∧ ∃ vs, KV kvs vs ∧ h.DictOf (mixKind P w) a vs := dk_rd ok (.inl e)
/-- a tracked tuple of ints and texts is a key -/
theorem key_of {ks : List Key} (ok : HOk P w H h) (e : H a = some (.tup (ks.map kV))) : (tupleKind (mixKind P w)).is h ks a := by
  obtain ⟨_, its, r, o, h1, h2, n, h3⟩ := (show ObjOk P w H h a (.tup (ks.map kV)) from ok a _ e)
  exact ⟨o, its.toArray, n, h1, h2, h3, by simpa using items_are r⟩
theorem dt_rd {kvs : List (List Key × V)} (ok : HOk P w H h) (e : Rd H a (.dT kvs)) : kvs.length ≤ sizeLine ∧ (a == sysModules) = false ∧
    ∃ xs, KT H kvs xs ∧ h.DictOfH (tupleKind (mixKind P w)) a xs := by
  obtain ⟨z, y, xs, r, o, es, ep, h1, h2, h3, h4, h5⟩ := (show ObjOk P w H h a (.dT kvs) from rd_of ok e)
  refine ⟨z, y, xs, r, o, es, ep, h1, h2, h3, h4, fun x hx => ?_, h5⟩
  have all : ∀ {l : List (List Key × V)} {m : List (List Key × Addr × Value)}, KT H l m → ∀ x ∈ m, (tupleKind (mixKind P w)).is h x.1 x.2.1 := by
    intro l m q
    induction q with
    | nil => intro x hx; exact nomatch hx
    | @cons p q ps qs hq t ih =>
      intro x hx
      rcases List.mem_cons.mp hx with e | hx
      · subst e
        exact key_of ok (by rw [← hq.1]; exact hq.2.1)
      · exact ih x hx
  exact all r x hx
theorem dt_of {kvs : List (List Key × V)} (ok : HOk P w H h) (e : H a = some (.dT kvs)) : kvs.length ≤ sizeLine ∧ (a == sysModules) = false ∧
    ∃ xs, KT H kvs xs ∧ h.DictOfH (tupleKind (mixKind P w)) a xs := dt_rd ok (.inl e)
end

/-- what the dict at a holds at the key y -/
def DGet (H : Hp) (a : Addr) (y : V) (r : Option V) : Prop :=
  (∃ kvs k, Rd H a (.dK kvs) ∧ y = kV k ∧ r = valV kvs k) ∨ ∃ kvs k b, Rd H a (.dT kvs) ∧ y = .ref b ∧ H b = some (.tup (k.map kV)) ∧ r = valV kvs k
/-- the heap behind a[y] = v -/
def DPut (H : Hp) (a : Addr) (y v : V) (H' : Hp) : Prop :=
  (∃ kvs k, H a = some (.dK kvs) ∧ y = kV k ∧ kvs.length < sizeLine ∧ H' = upd H a (.dK (putK kvs k v))) ∨
  ∃ kvs k b, H a = some (.dT kvs) ∧ y = .ref b ∧ H b = some (.tup (k.map kV)) ∧ kvs.length < sizeLine ∧ H' = upd H a (.dT (putK kvs k v))
theorem DGet.t {H : Hp} {a b : Addr} {kvs : List (List Key × V)} {k : List Key} (e : H a = some (.dT kvs)) (eb : H b = some (.tup (k.map kV))) : DGet H a (.ref b) (valV kvs k) := .inr ⟨kvs, k, b, .inl e, rfl, eb, rfl⟩
theorem DPut.t {H : Hp} {a b : Addr} {kvs : List (List Key × V)} {k : List Key} {v : V} (e : H a = some (.dT kvs)) (eb : H b = some (.tup (k.map kV))) (hl : kvs.length < sizeLine) :
    DPut H a (.ref b) v (upd H a (.dT (putK kvs k v))) := .inr ⟨kvs, k, b, e, rfl, eb, hl, rfl⟩


section
variable {X : Cx} {pins : List (Addr × Obj)} {σ : St} {H : Hp} {s : Shared} {a : Addr} {y v : V} {u r : Value} {o : Option V} {A : Around} {E : Value → Shared → Prop}

theorem Inv.big (I : Inv X pins σ H s) : sysModules < s.heap.objs.size := by
  have h : mainGlobals < s.heap.objs.size := (I.mod.glob.keeps I.bk).lt
  exact Nat.lt_trans (by decide) h

/-- y in d -/
theorem d_in {Q : Value → Shared → Prop} (hu : A.units + 1 < cLine) (I : Inv X pins σ H s) (g : DGet H a y o) (ry : RelV y u) (h : ∀ s', Inv X pins σ H s' → Q (.bool o.isSome) s') :
    wpAny (model X.prog X.w) A (compareOp .In u (.ref a)) Q E s := by
  rcases g with ⟨kvs, k, e, ey, l⟩ | ⟨kvs, k, b, e, ey, eb, l⟩
  · subst ey
    obtain ⟨z, hd, vs, rel, dd⟩ := dk_rd I.hok e
    refine wpAny_in_of (kV_is ry) hd dd.mapOf ?_
    rw [← (rel.val k).isSome_eq, ← l]
    exact h _ (I.tok _)
  · subst ey
    cases (show u = Value.ref b from ry)
    obtain ⟨z, hd, xs, rel, dd⟩ := dt_rd I.hok e
    refine wpAny_in_heap (tupleKind_room_in1 hu) (key_of I.hok eb) hd dd ?_
    have q := (rel.val k).isSome_eq
    rw [Option.isSome_map] at q
    rw [← q, ← l]
    exact h _ (I.tok _)
/-- a dict's object is replaced -/
theorem d_write {h' : Heap} {t' : Nat} {ob : HO} (I : Inv X pins σ H s) (mu : Mut (H a)) (hs : Heap.SameBut a s.heap h') (he : ∃ q, h'.get? a = some q) (new : ObjOk X.prog X.w (upd H a ob) h' a ob) :
    Inv X pins σ (upd H a ob) { s with heap := h', toks := t' } :=
  I.write (x := a) (e := a) mu (.inl rfl) (fun b q hb z => (hs.2 b hb).trans z) he new
theorem dk_new {P : Program} {w : World} {H' : Hp} {h' : Heap} {kvs : List (Key × V)} {vs : List (Key × Value)} (z : kvs.length ≤ sizeLine) (hd : (a == sysModules) = false) (rel : KV kvs vs) (dd : h'.DictOf (mixKind P w) a vs) :
    ObjOk P w H' h' a (.dK kvs) := ⟨z, hd, vs, rel, dd⟩
/-- d[y] = v -/
theorem d_setItem {H' : Hp} {Q : Unit → Shared → Prop} (hu : A.units + 1 < cLine) (I : Inv X pins σ H s) (g : DPut H a y v H') (ry : RelV y u) (rv : RelV v r) (h : ∀ s', Inv X pins σ H' s' → Q () s') :
    wpAny (model X.prog X.w) A (setItem (.ref a) u r) Q E s := by
  rcases g with ⟨kvs, k, e, ey, l, eH⟩ | ⟨kvs, k, b, e, ey, eb, l, eH⟩
  · subst ey eH
    obtain ⟨z, hd, vs, rel, dd⟩ := dk_of I.hok e
    have hz : vs.length ≤ sizeLine := by rw [← rel.length]; exact z
    have hl : (putK kvs k v).length ≤ sizeLine := by have := length_putK kvs k v; omega
    refine wpAny_setItem_pairs (hsz := hz) (kV_is ry) dd fun h' dd' hs => h _ ?_
    have he : ∃ q, h'.get? a = some q := let ⟨q, _, _, hq, _⟩ := dd'; ⟨q, hq⟩
    exact d_write I (by rw [e]; exact True.intro) hs he (dk_new hl hd (rel.put k rv) dd')
  · subst ey eH
    cases (show u = Value.ref b from ry)
    obtain ⟨z, hd, xs, rel, dd⟩ := dt_of I.hok e
    have hz : xs.length ≤ sizeLine := by rw [← Paired.length rel]; exact z
    have hl : (putK kvs k v).length ≤ sizeLine := by have := length_putK kvs k v; omega
    refine wpAny_setItem_heap (hsz := hz) (tupleKind_room_in1 hu) (key_of I.hok eb) dd fun h' dd' hs => h _ ?_
    obtain ⟨q, es, ep, hq, h2, h3, h4, _, h5⟩ := dd'
    refine d_write I (by rw [e]; exact True.intro) hs ⟨q, hq⟩ ⟨hl, hd, _, (rel.put k eb rv).keeps fun c ys ec => ?_, q, es, ep, hq, h2, h3, h4, h5⟩
    rw [upd_ne (ne_of ec e (fun z => nomatch z))]
    exact ec
end

section
variable {X : Cx} {pins : List (Addr × Obj)} {σ : St} {H : Hp} {s : Shared} {a : Addr} {kvs : List (Key × V)} {k : Key} {u : Value} {A : Around} {E : Value → Shared → Prop}
end


/-! ### readings and rules -/
/-- y in d, y not in d -/
def tDIn (ty td : TE) : TE := fun σ H Q => ty σ H fun y H1 => td σ H1 fun x H2 => ∃ a o, x = .ref a ∧ DGet H2 a y o ∧ Q (.bl o.isSome) H2
/-- d[y] = v -/
def sDPut (td ty tv : TE) : TS := fun D σ H => tv σ H fun v H1 => td σ H1 fun x H2 => ty σ H2 fun y H3 => ∃ a H4, x = .ref a ∧ DPut H3 a y v H4 ∧ D.nx σ H4
section
variable {X : Cx} {o i e value : Expr} {pos pos' tpos : Pos} {td ty tv : TE}
theorem pc_din (hu : X.A.units + 1 < cLine) (hi : PE X i ty) (ho : PE X o td) : PC X .In i o (tDIn ty td) := by
  intro pins s σ H Q I h
  refine thn (hi pins s σ H _ I h) fun iv s1 ⟨y, H1, I1, ry, q1⟩ => thn (ho pins s1 σ H1 _ I1 q1) fun u s2 ⟨x, H2, I2, rx, a, ov, ex, g, q2⟩ => ?_
  subst ex
  obtain rfl : u = Value.ref a := rx
  exact d_in hu I2 g ry fun s3 I3 => ⟨.bl ov.isSome, H2, I3, rfl, q2⟩
theorem ps_dput (hu : X.A.units + 1 < cLine) (ho : PE X o td) (hi : PE X i ty) (hv : PE X value tv) (hs : swapsWith value (some (.Subscript o i pos')) pos.line X.env = pure false) :
    PS X (.Assign [.Subscript o i pos'] value pos) (sDPut td ty tv) := by
  intro pins s σ H D I h
  refine wpAny_Assign_Subscript (thn (hv pins s σ H _ I h) fun r s1 ⟨v, H1, I1, rv, q1⟩ => thn (ho pins s1 σ H1 _ I1 q1) fun u s2 ⟨x, H2, I2, rx, q2⟩ => thn (hi pins s2 σ H2 _ I2 q2) fun iv s3 ⟨y, H3, I3, ry, a, H4, ex, g, q3⟩ => ?_) hs
  subst ex
  obtain rfl : u = Value.ref a := rx
  exact d_setItem hu I3 g ry rv fun s4 I4 => ⟨σ, H4, I4, q3⟩
end


/-! ### displays -/
theorem dt_empty {P : Program} {w : World} {H : Hp} (h : Heap) (hb : sysModules < h.objs.size) : ObjOk P w H (h.push { cls := .type "dict", data := .dict #[] }) h.objs.size (.dT []) :=
  ⟨Nat.zero_le _, beq_eq_false_iff_ne.mpr (Ne.symm (Nat.ne_of_lt hb)), [], .nil, _, #[], 0, Heap.get?_push_size _ rfl, ⟨rfl, rfl, rfl⟩, rfl, rfl, List.nodup_nil⟩
def tDNewT : TE := fun _ H Q => ∀ p, H p = none → Q (.ref p) (upd H p (.dT []))
section
variable {X : Cx} {pos : Pos}
theorem pe_dnewT : PE X (.Dict [] [] pos) tDNewT := fun pins s σ H Q I h =>
  wpAny_Dict_empty ⟨.ref s.heap.objs.size, _, I.laid (a := s.heap.objs.size) (o := .dT []) (t' := s.toks) (fun _ _ q => Heap.get?_push_of_some _ q) (Nat.le_refl _) (dt_empty s.heap I.big), rfl, h _ (I.hok.fresh (Nat.le_refl _))⟩
end

/-! ### methods -/
/-- a method call o.m(e) of a built-in, with one argument: what must be seen of the text -/
structure M1 (X : Cx) (o : Expr) (m : Str) (apos : Pos) (e : Expr) (cpos : Pos) : Prop where
  base : attributeBase o m X.env (eval o X.env) = eval o X.env
  few : ((backTo cpos (starEach [e] X.env)).all (fun x => !x.1) && (backToKw cpos (keywordEach [] X.env)).all (fun x => x.1.isSome)
    && decide (([e] : List Expr).length + ([] : List Keyword).length + (if ([] : List Keyword).isEmpty then 0 else 1) < 30)) = true
  line : (apos.endLine == cpos.line) = true
  trees : backTo cpos (starEach [e] X.env) = [(false, eval e X.env)]
structure M2 (X : Cx) (o : Expr) (m : Str) (apos : Pos) (e f : Expr) (cpos : Pos) : Prop where
  base : attributeBase o m X.env (eval o X.env) = eval o X.env
  few : ((backTo cpos (starEach [e, f] X.env)).all (fun x => !x.1) && (backToKw cpos (keywordEach [] X.env)).all (fun x => x.1.isSome)
    && decide (([e, f] : List Expr).length + ([] : List Keyword).length + (if ([] : List Keyword).isEmpty then 0 else 1) < 30)) = true
  line : (apos.endLine == cpos.line) = true
  trees : backTo cpos (starEach [e, f] X.env) = [(false, eval e X.env), (false, eval f X.env)]

/-- a is a dict, whatever its keys -/
def IsD (H : Hp) (a : Addr) : Prop := (∃ kvs, Rd H a (.dK kvs)) ∨ ∃ kvs, Rd H a (.dT kvs)
theorem isD_at {X : Cx} {pins : List (Addr × Obj)} {σ : St} {H : Hp} {s : Shared} {a : Addr} (I : Inv X pins σ H s) (d : IsD H a) :
    s.TypeIs (.ref a) "dict" ∧ (∀ b, Value.ref a = .ref b → ∃ ob, s.heap.get? b = some ob ∧ ob.dict = none) ∧ (a == sysModules) = false := by
  rcases d with ⟨kvs, e⟩ | ⟨kvs, e⟩
  · obtain ⟨_, hd, vs, _, dd⟩ := dk_rd I.hok e
    refine ⟨dd.typeIs, fun b q => ?_, hd⟩
    cases q
    obtain ⟨ob, _, _, h1, h2, _⟩ := dd
    exact ⟨ob, h1, h2.2.1⟩
  · obtain ⟨_, hd, xs, _, dd⟩ := dt_rd I.hok e
    refine ⟨dd.typeIs, fun b q => ?_, hd⟩
    cases q
    obtain ⟨ob, _, _, h1, h2, _⟩ := dd
    exact ⟨ob, h1, h2.2.1⟩

section
variable {X : Cx} {pins : List (Addr × Obj)} {σ : St} {H : Hp} {s : Shared} {a : Addr} {y d : V} {u r : Value} {o : Option V} {A : Around} {E : Value → Shared → Prop}
/-- d.get(y) -/
theorem d_get1 {Q : Value → Shared → Prop} (hu : A.units + 1 < cLine) (I : Inv X pins σ H s) (g : DGet H a y o) (ry : RelV y u) (h : ∀ w' s', Inv X pins σ H s' → RelV (o.getD .non) w' → Q w' s') :
    wpAny (model X.prog X.w) A (call (.builtin "dict.get") [.ref a, u]) Q E s := by
  rcases g with ⟨kvs, k, e, ey, l⟩ | ⟨kvs, k, b, e, ey, eb, l⟩
  · subst ey
    obtain ⟨z, hd, vs, rel, dd⟩ := dk_rd I.hok e
    refine call_meetsIn PySem.F.slot_dict_get dd.typeIs PySem.F.entry_dict_get (PySem.F.args_dict_get_2 _ _) (meets_dict_get (mixKind X.prog X.w) a (kV_is ry) hd) ⟨_, dd.mapOf, h _ _ (I.tok _) ?_⟩
    rw [l]
    exact (rel.val k).getD rfl
  · subst ey
    cases (show u = Value.ref b from ry)
    obtain ⟨z, hd, xs, rel, dd⟩ := dt_rd I.hok e
    refine call_meetsIn PySem.F.slot_dict_get dd.typeIs PySem.F.entry_dict_get (PySem.F.args_dict_get_2 _ _) (meetsH_dict_get (tupleKind (mixKind X.prog X.w)) a b hd) ⟨tupleKind_room_in1 hu, k, xs, key_of I.hok eb, dd, h _ _ (I.tok _) ?_⟩
    rw [l]
    exact (rel.val k).getD rfl
end

def tDGet1 (td ty : TE) : TE := fun σ H Q => td σ H fun x H1 => ∃ a, x = .ref a ∧ IsD H1 a ∧ ty σ H1 fun y H2 => ∃ o, DGet H2 a y o ∧ Q (o.getD .non) H2
section
variable {X : Cx} {o e f : Expr} {apos cpos : Pos} {td ty tx : TE}
theorem pe_dget1 (hu : X.A.units + 1 < cLine) (ho : PE X o td) (he : PE X e ty) (m : M1 X o "get" apos e cpos) : PE X (.Call (.Attribute o "get" apos) [e] [] cpos) (tDGet1 td ty) := by
  intro pins s σ H Q I h
  refine wpAny_Call_method m.base m.few m.line PySem.F.plainAttrs_dict PySem.F.slot_dict_get PySem.F.type_dict_get (thn (ho pins s σ H _ I h) fun u s1 ⟨x, H1, I1, rx, a, ex, d, q1⟩ => ?_)
  subst ex
  obtain rfl : u = Value.ref a := rx
  obtain ⟨t1, t2, _⟩ := isD_at I1 d
  refine ⟨t1, t2, ?_⟩
  rw [m.trees]
  refine Calls.callWith_builtin rfl (Calls.evalArgs_plain (Calls.spliced_cons (thn (he pins s1 σ H1 _ I1 q1) fun iv s2 ⟨y, H2, I2, ry, ov, g, q2⟩ => Calls.spliced_nil ?_)))
  exact d_get1 hu I2 g ry fun w' s3 I3 rw' => ⟨_, H2, I3, rw', q2⟩
end

/-! ### dict(d): a copy -/
section
variable {X : Cx} {pins : List (Addr × Obj)} {σ : St} {H : Hp} {s : Shared} {a : Addr} {kvs : List (Key × V)} {A : Around} {E : Value → Shared → Prop}
end


section
variable {X : Cx} {pins : List (Addr × Obj)} {σ : St} {H : Hp} {s : Shared} {a : Addr} {y : V} {u : Value} {A : Around} {E : Value → Shared → Prop}
end
end L2

namespace HT
open PySem PyProof.Rows

section
open PySem.SeqAt
open PySem.AutoSeq1 (wpAny_loadPart')
open PySem.MeetsSeq PySem.MeetsSeq2 PySem.MeetsSeq3

end

section
variable {prog : Program} {w : World} {A : Around} {E : Value → Shared → Prop} {s : Shared}

/-! ### t[a:b], not the whole -/
/-- a slice's bound as a place among n (d where it is left out) -/
def sIx (n d : Nat) : Option Int → Nat
  | none => d
  | some v => if v < 0 then (v + (n : Int)).toNat else min v.toNat n
theorem sIx_none (n d : Nat) : sIx n d none = d := rfl
theorem sIx_nat (n d k : Nat) : sIx n d (some (k : Int)) = min k n := by
  show (if (k : Int) < 0 then ((k : Int) + (n : Int)).toNat else min (k : Int).toNat n) = min k n
  rw [if_neg (by omega), Int.toNat_natCast]
theorem sIx_le (n d : Nat) (hd : d ≤ n) (o : Option Int) : sIx n d o ≤ n := by
  cases o with
  | none => exact hd
  | some v =>
    show (if v < 0 then (v + (n : Int)).toNat else min v.toNat n) ≤ n
    by_cases hv : v < 0
    · rw [if_pos hv]; omega
    · rw [if_neg hv]; exact Nat.min_le_right _ _
end
end HT

namespace L2
open PySem PySem.Spec PyProof.Rows

/-! ### the parts of a slice -/
abbrev TO := St → Hp → (Option Int → Hp → Prop) → Prop
/-- a slice's part (left out, or an int) -/
def PO (X : Cx) (e : Option Expr) (t : TO) : Prop :=
  ∀ (pins : List (Addr × Obj)) (s : Shared) (σ : St) (H : Hp) (Q : Option Int → Hp → Prop), Inv X pins σ H s → t σ H Q →
    wpAny (model X.prog X.w) X.A (evalPart e X.env) (fun u s' => ∃ o H', Inv X pins σ H' s' ∧ IsPart u o ∧ Q o H') X.xe s
def tNoPart : TO := fun _ H Q => Q none H
def tPart (t : TE) : TO := fun σ H Q => t σ H fun x H1 => ∃ i, x = .int i ∧ Q (some i) H1

section
variable {X : Cx} {e : Expr} {te : TE} {lo hi : Option Expr} {tl th : TO} {pos p2 : Pos}

theorem po_none : PO X none tNoPart := by
  intro pins s σ H Q I h
  rw [evalPart_none]
  exact wpAny_pure ⟨none, H, I, .none, h⟩
theorem po_some (h : PE X e te) : PO X (some e) (tPart te) := by
  intro pins s σ H Q I hw
  rw [evalPart_some]
  refine thn (h pins s σ H _ I hw) fun u s1 ⟨x, H1, I1, r1, q1⟩ => ?_
  obtain ⟨i, rfl, q⟩ := q1
  obtain ⟨t, rfl⟩ := r1
  exact ⟨some i, H1, I1, .int i t, q⟩

/-- what a slice of a value is, by values: the slice object stands at sl -/
def SlR (X : Cx) (r : V → Option Int → Option Int → Hp → VK → Prop) : Prop :=
  ∀ (pins : List (Addr × Obj)) (s : Shared) (σ : St) (H : Hp) (x : V) (v vl vu : Value) (lo hi : Option Int) (sl : Addr) (Q : VK), Inv X pins σ H s → RelV x v → s.heap.IsSliceOf sl vl vu .none → IsPart vl lo → IsPart vu hi → r x lo hi H Q →
    ∃ T id, typeLookup (.type T) "__getitem__" = pure (some (.builtin id)) ∧ s.TypeIs v T ∧ wpAny (model X.prog X.w) X.A (getItem v (.ref sl)) (EP X pins σ Q) X.xe s
def tSl (r : V → Option Int → Option Int → Hp → VK → Prop) (te : TE) (tl th : TO) : TE := fun σ H Q => te σ H fun x H1 => tl σ H1 fun l H2 => th σ H2 fun u H3 => r x l u H3 Q
/-- a[lo:hi], any a -/
theorem pe_slice {r : V → Option Int → Option Int → Hp → VK → Prop} (hr : SlR X r) (he : PE X e te) (hl : PO X lo tl) (hu : PO X hi th) : PE X (.Subscript e (.Slice lo hi none p2) pos) (tSl r te tl th) := by
  intro pins s σ H Q I h
  refine Subscript_ (thn (he pins s σ H _ I h) fun v s1 ⟨x, H1, I1, r1, q1⟩ => ?_)
  refine wpAny_Slice (thn (hl pins s1 σ H1 _ I1 q1) fun vl s2 ⟨l, H2, I2, pl, q2⟩ => thn (hu pins s2 σ H2 _ I2 q2) fun vu s3 ⟨u, H3, I3, pu, q3⟩ => ?_)
  rw [evalPart_none]
  refine wpAny_pure ?_
  have I4 : Inv X pins σ H3 { s3 with heap := s3.heap.push { cls := .type "slice", data := .fields #[vl, vu, .none] } } := I3.kept (t' := s3.toks) fun b ob q => Heap.get?_push_of_some _ q
  obtain ⟨T, id, hT, ht, hg⟩ := hr pins { s3 with heap := s3.heap.push { cls := .type "slice", data := .fields #[vl, vu, .none] } } σ H3 x v vl vu l u s3.heap.objs.size Q I4 r1 (Heap.IsSliceOf.new ..) pl pu q3
  show wpAny (model X.prog X.w) X.A (subscriptTail e (.Slice lo hi none p2) v (.ref s3.heap.objs.size)) (EP X pins σ Q) X.xe { s3 with heap := s3.heap.push { cls := .type "slice", data := .fields #[vl, vu, .none] } }
  exact tail_any (ops := [.ref s3.heap.objs.size, v]) ht hT hg (by with_unfolding_all rfl)

/-- the items of xs[lo:hi] -/
def cutV (xs : List V) (lo hi : Option Int) : List V := (xs.drop (HT.sIx xs.length 0 lo)).take (HT.sIx xs.length xs.length hi - HT.sIx xs.length 0 lo)
theorem cutV_length (xs : List V) (lo hi : Option Int) : (cutV xs lo hi).length ≤ xs.length := by
  unfold cutV
  rw [List.length_take, List.length_drop]
  omega
/-! ### t < u, t + u -/
end
end L2

namespace L2
open PySem PySem.Spec PyProof.Rows

/-! ### places -/
/-- the place that an index of any sign means -/
def ixN (n : Nat) (i : Int) : Option Nat := if 0 ≤ i then (if i < n then some i.toNat else none) else if -(n : Int) ≤ i then some (i + n).toNat else none
def atI {α : Type} (xs : List α) (i : Int) : Option α := (ixN xs.length i).bind fun j => xs[j]?
theorem ixN_seq {n : Nat} {i : Int} {j : Nat} (h : ixN n i = some j) : seqIndex? i n = some j ∧ j < n ∧ -(n : Int) ≤ i ∧ i < n := by
  unfold ixN at h
  by_cases h0 : 0 ≤ i
  · rw [if_pos h0] at h
    by_cases h1 : i < n
    · rw [if_pos h1] at h
      have e : i.toNat = j := Option.some.inj h
      exact ⟨by rw [seqIndex_of h0 h1, e], by omega, by omega, h1⟩
    · rw [if_neg h1] at h; cases h
  · rw [if_neg h0] at h
    by_cases h1 : -(n : Int) ≤ i
    · rw [if_pos h1] at h
      have e : (i + n).toNat = j := Option.some.inj h
      exact ⟨by rw [seqIndex_neg (by omega) h1, e], by omega, h1, by omega⟩
    · rw [if_neg h1] at h; cases h
theorem atI_get {α : Type} {xs : List α} {i : Int} {v : α} (h : atI xs i = some v) : ∃ j, seqIndex? i xs.length = some j ∧ xs[j]? = some v ∧ j < xs.length ∧ -(xs.length : Int) ≤ i ∧ i < xs.length := by
  unfold atI at h
  cases e : ixN xs.length i with
  | none => rw [e] at h; cases h
  | some j =>
    rw [e] at h
    obtain ⟨h1, h2, h3, h4⟩ := ixN_seq e
    exact ⟨j, h1, h, h2, h3, h4⟩
theorem atI_nat {α : Type} {xs : List α} {j : Nat} {v : α} (h : xs[j]? = some v) : atI xs (j : Int) = some v := by
  have hj : j < xs.length := (List.getElem?_eq_some_iff.mp h).1
  have e : ixN xs.length (j : Int) = some j := by
    unfold ixN
    rw [if_pos (by omega), if_pos (by omega)]; simp
  unfold atI; rw [e]; exact h
/-! ### what may be subscripted -/
/-- what stands as an index of a plain subscript -/
def PlainIx (b : Expr) : Prop := ∀ o i, subscripted b false o i = operate [o, i] (getItem o i)
/-- a subscript by values -/
def IxR (X : Cx) (r : R2) : Prop :=
  ∀ (value slice : Expr) (pins : List (Addr × Obj)) (s : Shared) (σ : St) (H : Hp) (x y : V) (v u : Value) (Q : VK), Inv X pins σ H s → RelV x v → RelV y u → r x y H Q →
    subscripted slice false v u = operate [v, u] (getItem v u) → wpAny (model X.prog X.w) X.A (subscriptTail value slice v u) (EP X pins σ Q) X.xe s
/-- a call of a builtin's method by values: the receiver, the arguments -/
def MtR (X : Cx) (id : String) (r : V → List V → Hp → VK → Prop) : Prop :=
  ∀ (pins : List (Addr × Obj)) (s : Shared) (σ : St) (H : Hp) (x : V) (xs : List V) (v : Value) (us : List Value) (Q : VK), Inv X pins σ H s → RelV x v → Vals xs us → r x xs H Q →
    wpAny (model X.prog X.w) X.A (call (.builtin id) (v :: us)) (EP X pins σ Q) X.xe s
section
variable {X : Cx} {a b : Expr} {ta tb : TE} {pos : Pos}
/-- a[b] -/
theorem pe_ix {r : R2} (hr : IxR X r) (ha : PE X a ta) (hb : PE X b tb) (hs : PlainIx b) : PE X (.Subscript a b pos) (tOp r ta tb) := by
  intro pins s σ H Q I h
  exact Subscript_ (binT ha hb I h fun v u s2 x y H2 I2 rx ry q => hr a b pins s2 σ H2 x y v u Q I2 rx ry q (hs _ _))

inductive rIxL (K : PySem.W.Frag) (x : V) (y : V) (H : Hp) (Q : VK) : Prop
  | mk (p : _) (xs : _) (i : _) (v : _) (_ : x = .ref p) (_ : y = .int i) (_ : SqL K H p xs) (_ : atI xs i = some v) (_ : Q v H) : rIxL K x y H Q
inductive rIxT (K : PySem.W.Frag) (x : V) (y : V) (H : Hp) (Q : VK) : Prop
  | mk (p : _) (xs : _) (i : _) (v : _) (_ : x = .ref p) (_ : y = .int i) (_ : SqT K H p xs) (_ : atI xs i = some v) (_ : Q v H) : rIxT K x y H Q
inductive rIxS (x : V) (y : V) (H : Hp) (Q : VK) : Prop
  | mk (z : _) (i : _) (c : _) (_ : x = .str z) (_ : y = .int i) (_ : z.length ≤ sizeLine) (_ : atI z.cps.toList i = some c) (_ : Q (.str ⟨#[c]⟩) H) : rIxS  x y H Q
theorem ix_list : IxR X (rIxL X.K) := by
  intro value slice pins s σ H x y v u Q I rx ry h hs
  obtain ⟨p, xs, i, z, rfl, rfl, hq, he, q⟩ := h
  cases rx
  obtain ⟨t, rfl⟩ := ry
  obtain ⟨its, r, pl, hz⟩ := I.list hq
  obtain ⟨j, h1, h2, h3, h4, h5⟩ := atI_get he
  obtain ⟨w, ew, rw'⟩ := r.get h2
  have hl := r.length
  have hn := line63
  have fin : EP X pins σ Q w s := ⟨z, H, I, rw', q⟩
  by_cases h0 : 0 ≤ i
  · have hj : i.toNat = j := by
      rw [seqIndex_of h0 h5] at h1
      exact Option.some.inj h1
    exact item_listR pl.isList h0 (by omega) (by rw [hj]; simpa using ew) fin hs
  · have hj : (i + (its.toArray.size : Int)).toNat = j := by
      rw [seqIndex_neg (by omega) h4] at h1
      rw [List.size_toArray, ← hl]
      exact Option.some.inj h1
    exact subscriptTail_builtinR (x := w) pl.isList.typeIs slot_list_getitem.lookup
      (wpAny_getItem_list_neg (Q := fun r s' => r = w ∧ EP X pins σ Q r s') pl.isList (by omega) (by rw [List.size_toArray] <;> omega) (by omega) (by rw [hj]; simpa using ew) ⟨rfl, fin⟩) hs
theorem ix_tup : IxR X (rIxT X.K) := by
  intro value slice pins s σ H x y v u Q I rx ry h hs
  obtain ⟨p, xs, i, z, rfl, rfl, hq, he, q⟩ := h
  cases rx
  obtain ⟨t, rfl⟩ := ry
  obtain ⟨its, r, pl, hz⟩ := I.tuple hq
  obtain ⟨j, h1, h2, h3, h4, h5⟩ := atI_get he
  obtain ⟨w, ew, rw'⟩ := r.get h2
  have hl := r.length
  have hn := line63
  have fin : EP X pins σ Q w s := ⟨z, H, I, rw', q⟩
  exact subscriptTail_builtinR (x := w) pl.typeIs slot_tuple_getitem.lookup
    (getItem_tuple (j := j) (Q := fun r s' => r = w ∧ EP X pins σ Q r s') pl (by omega) (by omega) (by rw [List.size_toArray, ← hl]; exact h1) (by simpa using ew) ⟨rfl, fin⟩) hs
theorem ix_str : IxR X rIxS := by
  intro value slice pins s σ H x y v u Q I rx ry h hs
  obtain ⟨z, i, c, rfl, rfl, hz, he, q⟩ := h
  obtain ⟨t, rfl⟩ := rx
  obtain ⟨t', rfl⟩ := ry
  obtain ⟨j, h1, h2, h3, h4, h5⟩ := atI_get he
  have hl : z.cps.toList.length = z.length := by simp [Str.length]
  rw [hl] at h1 h4 h5
  have hn := line63
  exact tail_any (typeIs_str s z t) slot_str_getitem.lookup (getItem_str (c := c) (by
    have e1 : decide (i < -(2 ^ 63 : Int)) = false := decide_eq_false (by omega)
    have e2 : decide (i ≥ 2 ^ 63) = false := decide_eq_false (by omega)
    rw [e1, e2, Bool.or_false]) (by rw [h1]; simpa using h2) ⟨.str ⟨#[c]⟩, H, I.tok _, ⟨_, rfl⟩, q⟩) hs
/-! ### xs[i] = v, any sign -/
/-- the list's object behind a store -/
theorem mapSeq_set (its : List Value) (n j : Nat) (u : Value) : Obj.mapSeq (·.setIfInBounds j u) { cls := .type "list", data := .seq its.toArray n } = { cls := .type "list", data := .seq (its.set j u).toArray n } := by
  simp [Obj.mapSeq]
theorem Inv.lst {pins : List (Addr × Obj)} {σ : St} {H : Hp} {s : Shared} {p : Addr} {xs : List V} (I : Inv X pins σ H s) (h : H p = some (.lst xs)) :
    ∃ (its : List Value) (n : Nat), Vals xs its ∧ s.heap.get? p = some { cls := .type "list", data := .seq its.toArray n } ∧ xs.length ≤ sizeLine := by
  obtain ⟨z, its, n, r, e⟩ := I.hok p _ h
  exact ⟨its, n, r, e, z⟩
/-- the list at p is written by an update of its object -/
theorem Inv.lstUpd {pins : List (Addr × Obj)} {σ : St} {H : Hp} {s : Shared} {p : Addr} {xs ys : List V} {its its' : List Value} {n n' : Nat} {f : Obj → Obj} (I : Inv X pins σ H s) (h : H p = some (.lst xs))
    (ho : s.heap.get? p = some { cls := .type "list", data := .seq its.toArray n }) (hf : f { cls := .type "list", data := .seq its.toArray n } = { cls := .type "list", data := .seq its'.toArray n' }) (r : Vals ys its') (hz : ys.length ≤ sizeLine) (t : Nat) :
    Inv X pins σ (upd H p (.lst ys)) { s with heap := s.heap.update p f, toks := t } := by
  have e : (s.heap.update p f).get? p = some { cls := .type "list", data := .seq its'.toArray n' } := by
    rw [Heap.get?_update_self f ho (by rw [hf] <;> rfl), hf]
  refine I.write (x := p) (e := p) (by rw [h]; trivial) (.inl rfl) (fun b u hb q => (Heap.get?_update_other _ _ (Ne.symm hb)).trans q) ⟨_, e⟩ ?_
  exact ⟨hz, its', n', r, e⟩
inductive rSetL (o : V) (i : V) (v : V) (H : Hp) (Q : (Hp → Prop)) : Prop
  | mk (p : _) (xs : _) (k : _) (j : _) (_ : o = .ref p) (_ : i = .int k) (_ : H p = some (.lst xs)) (_ : ixN xs.length k = some j) (_ : Q (upd H p (.lst (xs.set j v)))) : rSetL  o i v H Q
theorem set_list : PSet X rSetL := by
  intro pins s σ H o i v ov iv u Q I ro ri rv h
  obtain ⟨p, xs, k, j, rfl, rfl, hp, hj, q⟩ := h
  cases ro
  obtain ⟨t, rfl⟩ := ri
  obtain ⟨its, n, r, ho, hz⟩ := I.lst hp
  obtain ⟨h1, h2, h3, h4⟩ := ixN_seq hj
  have hl := r.length
  have hn := line63
  have I' : Inv X pins σ (upd H p (.lst (xs.set j v))) { s with heap := s.heap.update p (Obj.mapSeq (·.setIfInBounds j u)) } :=
    I.lstUpd hp ho (mapSeq_set its n j u) (r.set rv j) (by rw [List.length_set]; exact hz) s.toks
  by_cases h0 : 0 ≤ k
  · have hk : k.toNat = j := by
      rw [seqIndex_of h0 h4] at h1
      exact Option.some.inj h1
    exact PySem.W.ki_setAt ho h0 (by omega) (by rw [List.size_toArray, ← hl]; exact h4) (by rw [hk]; exact ⟨_, I', q⟩)
  · have hk : (k + (its.toArray.size : Int)).toNat = j := by
      rw [seqIndex_neg (by omega) h3] at h1
      rw [List.size_toArray, ← hl]
      exact Option.some.inj h1
    exact PySem.W.ki_setBack ho (by omega) (by rw [List.size_toArray, ← hl]; exact h3) (by omega) (by rw [hk]; exact ⟨_, I', q⟩)

/-! ### slices -/
theorem slice_bounds (lo hi : Option Int) (n : Nat) : (sliceBounds lo hi none n).1 = ((HT.sIx n 0 lo : Nat) : Int) ∧ (sliceBounds lo hi none n).2.1 = ((HT.sIx n n hi : Nat) : Int) ∧ (sliceBounds lo hi none n).2.2 = 1 := by
  refine ⟨?_, ?_, rfl⟩
  · cases lo with
    | none => simp [sliceBounds, HT.sIx]
    | some i =>
      simp only [sliceBounds, HT.sIx, Option.getD_none, show (1 : Int) > 0 by decide, if_true]
      by_cases h : i < 0
      · simp only [h, if_true] <;> omega
      · simp only [h, if_false] <;> omega
  · cases hi with
    | none => simp [sliceBounds, HT.sIx]
    | some i =>
      simp only [sliceBounds, HT.sIx, Option.getD_none, show (1 : Int) > 0 by decide, if_true]
      by_cases h : i < 0
      · simp only [h, if_true] <;> omega
      · simp only [h, if_false] <;> omega
theorem slicePick_cut (its : List Value) (lo hi : Option Int) : slicePick its.toArray lo hi none = ((its.drop (HT.sIx its.length 0 lo)).take (HT.sIx its.length its.length hi - HT.sIx its.length 0 lo)).toArray := by
  obtain ⟨h1, h2, h3⟩ := slice_bounds lo hi its.toArray.size
  unfold slicePick
  rw [h1, h2, h3]
  simp only [sliceRange_one, pick_run, List.size_toArray] <;> rfl
/-- xs[lo:hi] of a list: a new list -/
inductive rSlL (K : PySem.W.Frag) (x : V) (lo : Option Int) (hi : Option Int) (H : Hp) (Q : VK) : Prop
  | mk (a : _) (xs : _) (_ : x = .ref a) (_ : SqL K H a xs) (_ : ∀ p, H p = none → Q (.ref p) (upd H p (.lst (cutV xs lo hi)))) : rSlL K x lo hi H Q
theorem sl_list : SlR X (rSlL X.K) := by
  intro pins s σ H x v vl vu lo hi sl Q I rx hs pl pu h
  obtain ⟨a, xs, rfl, hx, q⟩ := h
  cases rx
  obtain ⟨its, r, ht, hz⟩ := I.list hx
  have hlen := r.length
  refine ⟨"list", _, slot_list_getitem.lookup, ht.isList.typeIs, ?_⟩
  refine wpAny_getItem_list_slice ht.isList hs pl pu .none (by simp) ?_ (by rw [List.size_toArray] <;> omega)
  rw [slicePick_cut, ← hlen]
  refine ⟨.ref s.heap.objs.size, _, I.laid (t' := s.toks) (o := .lst (cutV xs lo hi)) (fun b ob q => Heap.get?_push_of_some _ q) (Nat.le_refl _) ?_, rfl, q _ (I.hok.fresh (Nat.le_refl _))⟩
  exact ⟨Nat.le_trans (cutV_length xs lo hi) hz, _, 0, (r.drop (HT.sIx xs.length 0 lo)).take (HT.sIx xs.length xs.length hi - HT.sIx xs.length 0 lo), Heap.get?_push_size _ rfl⟩

/-! ### in, not in: flat items -/
def flatV : V → Bool
  | .non => true
  | .bl _ => true
  | .int _ => true
  | .str _ => true
  | _ => false
/-- == of flat values -/
def eqV : V → V → Bool
  | .non, .non => true
  | .bl a, .bl b => a == b
  | .bl a, .int b => (if a then 1 else 0) == b
  | .int a, .bl b => a == (if b then 1 else 0)
  | .int a, .int b => a == b
  | .str a, .str b => a == b
  | _, _ => false
theorem eqAt_V {A : Around} {s : Shared} {y x : V} {u v : Value} (ry : RelV y u) (rx : RelV x v) (fy : flatV y = true) (fx : flatV x = true) : SeqAt.EqAt A s u v (eqV y x) := by
  cases y with
  | non =>
    cases ry
    cases x with
    | non => cases rx; exact SeqAt.EqAt.same _
    | bl b => cases rx; exact SeqAt.EqAt.none_bool b
    | int b => obtain ⟨t, rfl⟩ := rx; exact SeqAt.EqAt.none_int b t
    | str b => obtain ⟨t, rfl⟩ := rx; exact SeqAt.EqAt.none_str b t
    | _ => exact absurd (show false = true from fx) Bool.false_ne_true
  | bl a =>
    cases ry
    cases x with
    | non => cases rx; exact SeqAt.EqAt.bool_none a
    | bl b => cases rx; exact SeqAt.EqAt.bool_bool a b
    | int b => obtain ⟨t, rfl⟩ := rx; exact SeqAt.EqAt.bool_int a b t
    | str b => obtain ⟨t, rfl⟩ := rx; exact SeqAt.EqAt.bool_str a b t
    | _ => exact absurd (show false = true from fx) Bool.false_ne_true
  | int a =>
    obtain ⟨t', rfl⟩ := ry
    cases x with
    | non => cases rx; exact SeqAt.EqAt.int_none a t'
    | bl b => cases rx; exact SeqAt.EqAt.int_bool a t' b
    | int b => obtain ⟨t, rfl⟩ := rx; exact SeqAt.EqAt.int_int a t' b t
    | str b => obtain ⟨t, rfl⟩ := rx; exact SeqAt.EqAt.int_str a t' b t
    | _ => exact absurd (show false = true from fx) Bool.false_ne_true
  | str a =>
    obtain ⟨t', rfl⟩ := ry
    cases x with
    | non => cases rx; exact SeqAt.EqAt.str_none a t'
    | bl b => cases rx; exact SeqAt.EqAt.str_bool a t' b
    | int b => obtain ⟨t, rfl⟩ := rx; exact SeqAt.EqAt.str_int a t' b t
    | str b => obtain ⟨t, rfl⟩ := rx; exact SeqAt.EqAt.str_str a t' b t
    | _ => exact absurd (show false = true from fx) Bool.false_ne_true
  | _ => exact absurd (show false = true from fy) Bool.false_ne_true
/-- the items' answers, read off the values (a value's own answer does not lean on its token) -/
def eqU (x : V) (u : Value) : Bool := match u with
  | .none => eqV .non x
  | .bool b => eqV (.bl b) x
  | .int i _ => eqV (.int i) x
  | .str z _ => eqV (.str z) x
  | _ => false
theorem eqU_of {x y : V} {u : Value} (r : RelV y u) (f : flatV y = true) : eqU x u = eqV y x := by
  cases y with
  | non => cases r; rfl
  | bl b => cases r; rfl
  | int i => obtain ⟨t, rfl⟩ := r; rfl
  | str z => obtain ⟨t, rfl⟩ := r; rfl
  | _ => exact absurd (show false = true from f) Bool.false_ne_true
theorem any_eqU {x : V} : ∀ {xs : List V} {us : List Value}, Vals xs us → xs.all flatV = true → us.any (eqU x) = xs.any fun y => eqV y x
  | _, _, .nil, _ => rfl
  | y :: xs, u :: us, .cons r t, f => by
    rw [List.all_cons, Bool.and_eq_true] at f
    rw [List.any_cons, List.any_cons, eqU_of r f.1, any_eqU t f.2]
theorem mem_eqAt {A : Around} {s : Shared} {x : V} {v : Value} (rx : RelV x v) (fx : flatV x = true) : ∀ {xs : List V} {us : List Value}, Vals xs us → xs.all flatV = true → ∀ u ∈ us, SeqAt.EqAt A s u v (eqU x u)
  | _, _, .nil, _ => fun u hu => by cases hu
  | y :: xs, u :: us, .cons r t, f => fun u' hu => by
    rw [List.all_cons, Bool.and_eq_true] at f
    rcases List.mem_cons.mp hu with rfl | hu
    · rw [eqU_of r f.1]; exact eqAt_V r rx f.1 fx
    · exact mem_eqAt rx fx t f.2 u' hu
def inV (x : V) (xs : List V) : Bool := xs.any fun y => eqV y x
/-- x in a list or tuple of flat items -/
def rIn (K : PySem.W.Frag) (neg : Bool) : R2 := fun x y H Q => ∃ p xs, y = .ref p ∧ (SqL K H p xs ∨ SqT K H p xs) ∧ flatV x = true ∧ xs.all flatV = true ∧ Q (.bl (if neg then !inV x xs else inV x xs)) H
theorem op_in_seq : OpR X (compareOp .In) (rIn X.K false) := by
  intro pins s σ H x y v u Q I rx ry h
  obtain ⟨p, xs, rfl, hq, fx, fs, q⟩ := h
  cases ry
  rcases hq with hq | hq
  · obtain ⟨its, r, pl, hz⟩ := I.list hq
    refine SeqAt.in_listAt (eqU x) pl.isList (fun w hw => mem_eqAt rx fx r fs w (by simpa using hw)) ⟨.bl _, H, I, rfl, ?_⟩
    rw [show its.toArray.any (eqU x) = its.any (eqU x) by simp, any_eqU r fs]
    exact q
  · obtain ⟨its, r, pl, hz⟩ := I.tuple hq
    refine SeqAt.in_tupleAt (eqU x) pl (fun w hw => mem_eqAt rx fx r fs w (by simpa using hw)) ⟨.bl _, H, I, rfl, ?_⟩
    rw [show its.toArray.any (eqU x) = its.any (eqU x) by simp, any_eqU r fs]
    exact q
/-! ### len, list(x), tuple(x) of any list or tuple that is read -/
theorem call_len_seq : CallR X (.builtin "len") (fun xs H Q => ∃ p ys, xs = [.ref p] ∧ (SqL X.K H p ys ∨ SqT X.K H p ys) ∧ Q (.int ys.length) H) := by
  intro pins s σ H xs us Q I r h
  obtain ⟨p, ys, rfl, hq, q⟩ := h
  obtain ⟨u, rfl, rx⟩ := vals1 r
  cases rx
  have hn := line63
  rcases hq with hq | hq
  · obtain ⟨its, r', pl, hz⟩ := I.list hq
    have hlen := r'.length
    exact Calls.call_len_list pl.isList (by simp only [List.size_toArray] <;> omega) ⟨.int ys.length, H, I.tok _, ⟨s.toks + 1, by rw [List.size_toArray, hlen]⟩, q⟩
  · obtain ⟨its, r', pl, hz⟩ := I.tuple hq
    have hlen := r'.length
    exact len_tuple pl (by simp only [List.size_toArray] <;> omega) ⟨.int ys.length, H, I.tok _, ⟨s.toks + 1, by rw [List.size_toArray, hlen]⟩, q⟩
theorem call_len_str : CallR X (.builtin "len") (fun xs H Q => ∃ z, xs = [.str z] ∧ z.length ≤ sizeLine ∧ Q (.int z.length) H) := by
  intro pins s σ H xs us Q I r h
  obtain ⟨z, rfl, hz, q⟩ := h
  obtain ⟨u, rfl, t, rfl⟩ := vals1 r
  have hn := line63
  exact len_str (by omega) ⟨.int z.length, H, I.tok _, ⟨_, rfl⟩, q⟩
theorem call_list_of : CallR X (.type "list") (fun xs H Q => ∃ p ys, xs = [.ref p] ∧ (SqL X.K H p ys ∨ SqT X.K H p ys) ∧ ∀ l, H l = none → Q (.ref l) (upd H l (.lst ys))) := by
  intro pins s σ H xs us Q I r h
  obtain ⟨p, ys, rfl, hq, q⟩ := h
  obtain ⟨u, rfl, rx⟩ := vals1 r
  cases rx
  have fin : ∀ (its : List Value), Vals ys its → ys.length ≤ sizeLine → ∀ (h' : Heap) (c' : Nat), (∀ b o', s.heap.get? b = some o' → h'.get? b = some o') →
      h'.get? s.heap.objs.size = some { cls := .type "list", dict := none, data := .seq its.toArray c', slots := #[] } → EP X pins σ Q (.ref s.heap.objs.size) { s with heap := h' } := fun its r' hz h' c' kp e =>
    ⟨.ref s.heap.objs.size, _, I.laid (t' := s.toks) kp (Nat.le_refl _) (show ObjOk X.prog X.w _ h' _ (.lst ys) from ⟨hz, its, c', r', e⟩), rfl, q _ (I.hok.fresh (Nat.le_refl _))⟩
  rcases hq with hq | hq
  · obtain ⟨its, r', pl, hz⟩ := I.list hq
    have hlen := r'.length
    obtain ⟨o, ho, hc, n, hd⟩ := pl.isList
    exact call_list_seq p (.inl rfl) ho hc hd (fun h' c' kp e => fin its r' hz h' c' kp e) (by simp only [List.size_toArray] <;> omega)
  · obtain ⟨its, r', pl, hz⟩ := I.tuple hq
    have hlen := r'.length
    obtain ⟨o, ho, hc, n, hd⟩ := pl
    exact call_list_seq p (.inr rfl) ho hc hd (fun h' c' kp e => fin its r' hz h' c' kp e) (by simp only [List.size_toArray] <;> omega)
/-! ### the call of a builtin's method: o.m(..) -/
/-- the value is of that builtin type -/
def tyV (K : PySem.W.Frag) (T : String) (x : V) (H : Hp) : Prop := match x with
  | .str _ => T = "str"
  | .int _ => T = "int"
  | .ref p => (T = "list" ∧ ∃ xs, SqL K H p xs) ∨ (T = "tuple" ∧ ∃ o, K.lookup p = some o ∧ o.cls = .type "tuple" ∧ o.dict = none) ∨
      (T = "dict" ∧ ((∃ kvs, H p = some (.dK kvs)) ∨ ∃ kvs, H p = some (.dT kvs))) ∨ (T = "set" ∧ ∃ S n, H p = some (.set S n))
  | _ => False
theorem tyV_is {pins : List (Addr × Obj)} {σ : St} {H : Hp} {s : Shared} {T : String} {x : V} {v : Value} (I : Inv X pins σ H s) (r : RelV x v) (ty : tyV X.K T x H) :
    s.TypeIs v T ∧ ∀ a, v = .ref a → ∃ ob, s.heap.get? a = some ob ∧ ob.dict = none := by
  cases x with
  | str z =>
    obtain ⟨t, rfl⟩ := r
    cases (show T = "str" from ty)
    exact ⟨typeIs_str s z t, fun _ e => nomatch e⟩
  | int i =>
    obtain ⟨t, rfl⟩ := r
    cases (show T = "int" from ty)
    exact ⟨typeIs_int s i t, fun _ e => nomatch e⟩
  | ref p =>
    cases r
    rcases ty with ⟨rfl, xs, hq⟩ | ⟨rfl, o, hk, hc, hd⟩ | ⟨rfl, hk⟩ | ⟨rfl, S, n, hk⟩
    · obtain ⟨its, _, pl, _⟩ := I.list hq
      refine ⟨pl.isList.typeIs, fun a e => ?_⟩
      cases e
      obtain ⟨o, n, e, c, hd, _⟩ := pl
      exact ⟨o, e, hd⟩
    · refine ⟨⟨o, I.kIn p o hk, hc⟩, fun a e => ?_⟩
      cases e
      exact ⟨o, I.kIn _ o hk, hd⟩
    · have z : ∃ o, s.heap.get? p = some o ∧ o.ExactDict := by
        rcases hk with ⟨kvs, hk⟩ | ⟨kvs, hk⟩
        · obtain ⟨_, _, _, _, o, _, _, e, ex, _⟩ := I.hok p _ hk
          exact ⟨o, e, ex⟩
        · obtain ⟨_, _, _, _, o, _, _, e, ex, _⟩ := I.hok p _ hk
          exact ⟨o, e, ex⟩
      obtain ⟨o, e, ex⟩ := z
      refine ⟨⟨o, e, ex.1⟩, fun a e2 => ?_⟩
      cases e2
      exact ⟨o, e, ex.2.1⟩
    · obtain ⟨o, _, _, _, e, ex, _⟩ := I.hok p _ hk
      refine ⟨⟨o, e, ex.1⟩, fun a e2 => ?_⟩
      cases e2
      exact ⟨o, e, ex.2.1⟩
  | _ => exact False.elim ty
def tBM (K : PySem.W.Frag) (T : String) (r : V → List V → Hp → VK → Prop) (to : TE) (t : TA) : TE := fun σ H Q => to σ H fun x H1 => tyV K T x H1 ∧ t σ H1 fun xs H2 => r x xs H2 Q
variable {o e : Expr} {es : List Expr} {to : TE} {t : TA} {name : Str} {apos cpos : Pos} {T id : String} {r : V → List V → Hp → VK → Prop}
theorem pe_bm (pa : PlainAttrs T) (slot : Slot T name id) (hty : typeOf (.builtin id) = pure (.type "method_descriptor")) (hm : MtR X id r) (ho : PE X o to) (ha : PA X (e :: es) t)
    (hbase : attributeBase o name X.env (eval o X.env) = eval o X.env := by rfl)
    (hfew : ((backTo cpos (starEach (e :: es) X.env)).all (fun x => !x.1) && (backToKw cpos (keywordEach [] X.env)).all (fun x => x.1.isSome)
      && decide ((e :: es).length + ([] : List Keyword).length + (if ([] : List Keyword).isEmpty then 0 else 1) < 30)) = true := by rfl)
    (hline : (apos.endLine == cpos.line) = true := by rfl) (hs : starEach (e :: es) X.env = (false, eval e X.env) :: starEach es X.env := by rfl) (hplain : (backTo cpos (starEach es X.env)).any (·.1) = false := by rfl) :
    PE X (.Call (.Attribute o name apos) (e :: es) [] cpos) (tBM X.K T r to t) := by
  intro pins s σ H Q I h
  refine wpAny_Call_method_late hbase hfew hline rfl (thn (ho pins s σ H _ I h) fun v s1 ⟨x, H1, I1, r1, ty, q1⟩ => ?_)
  obtain ⟨h1, h2⟩ := tyV_is I1 r1 ty
  refine ⟨T, id, pa, slot, hty, h1, h2, ?_⟩
  have hA := ha cpos pins s1 σ H1 _ I1 q1
  rw [hs] at hA ⊢
  refine Calls.callWith_builtin (by show (false || (backTo cpos (starEach es X.env)).any (·.1)) = false; rw [hplain] <;> rfl) (Calls.evalArgs_plain ?_)
  exact thn hA fun us s2 ⟨vs, H2, I2, r2, q2⟩ => hm pins s2 σ H2 x vs v us Q I2 r1 r2 q2
/- xs.append(e), list.index on a module's tuple .. are MtR facts of 06m -/
end
end L2

namespace L2
open PySem PySem.Spec PyProof.Rows

def MtM (X : Cx) (id : String) (r : V → List V → Hp → VK → Prop) : Prop :=
  ∀ (pins : List (Addr × Obj)) (s : Shared) (σ : St) (H : Hp) (x : V) (xs : List V) (v : Value) (us : List Value) (Q : VK), Inv X pins σ H s → RelV x v → Vals xs us → r x xs H Q →
    wpAny (model X.prog X.w) X.A (call (.builtin id) (v :: us)) (EP X pins σ Q) X.xe s

/-! ### lists of values -/
theorem Vals.one : ∀ {x : V} {us : List Value}, Vals [x] us → ∃ u, us = [u] ∧ RelV x u
  | _, _, .cons r .nil => ⟨_, rfl, r⟩
theorem Vals.rep {xs : List V} {us : List Value} (h : Vals xs us) : ∀ k : Nat, Vals (List.replicate k xs).flatten (List.replicate k us).flatten
  | 0 => .nil
  | k + 1 => by
    rw [List.replicate_succ, List.replicate_succ, List.flatten_cons, List.flatten_cons]
    exact Vals.append h (Vals.rep h k)
theorem foldl_rep (its : List Value) : ∀ (k : Nat) (acc : List Value),
    List.foldl (fun x1 x2 => x1 ++ x2) acc.toArray (List.replicate k its.toArray) = (acc ++ (List.replicate k its).flatten).toArray
  | 0, acc => by simp
  | k + 1, acc => by
    have e : acc.toArray ++ its.toArray = (acc ++ its).toArray := by simp
    have e2 : (acc ++ its) ++ (List.replicate k its).flatten = acc ++ (List.replicate (k + 1) its).flatten := by
      rw [List.replicate_succ, List.flatten_cons, List.append_assoc]
    rw [← e2, ← foldl_rep its k (acc ++ its), ← e, List.replicate_succ, List.foldl_cons]

section
variable {X : Cx} {pins : List (Addr × Obj)} {σ : St} {H : Hp} {s : Shared} {l b : Addr} {xs ys zs : List V}

/-! ### the two steps: a tracked list is rewritten, a new list is laid -/
theorem Inv.lset {its its' : List Value} {n : Nat} {f : Array Value → Array Value} {t' : Nat} (I : Inv X pins σ H s) (hH : H l = some (.lst xs))
    (e : s.heap.get? l = some { cls := .type "list", data := .seq its.toArray n }) (hf : f its.toArray = its'.toArray) (hv : Vals ys its') (hz : ys.length ≤ sizeLine) :
    Inv X pins σ (upd H l (.lst ys)) { s with heap := s.heap.update l (Obj.mapSeq f), toks := t' } := by
  have q := PySem.IsL.update e f
  rw [hf] at q
  refine I.write (x := l) (e := l) (by rw [hH]; exact trivial) (.inl rfl) (fun b' u hb hu => (Heap.get?_update_other s.heap (Obj.mapSeq f) (Ne.symm hb)).trans hu) ⟨_, q⟩ ?_
  exact ⟨hz, its', _, hv, q⟩
theorem Inv.lnew {its : List Value} {t' : Nat} (I : Inv X pins σ H s) (hv : Vals ys its) (hz : ys.length ≤ sizeLine) :
    Inv X pins σ (upd H s.heap.objs.size (.lst ys)) { s with heap := s.heap.push { cls := .type "list", data := .seq its.toArray }, toks := t' } :=
  I.laid (fun _ _ q => Heap.get?_push_of_some _ q) (Nat.le_refl _) ⟨hz, its, 0, hv, Heap.get?_push_size _ rfl⟩
theorem Inv.fresh (I : Inv X pins σ H s) : H s.heap.objs.size = none := I.hok.fresh (Nat.le_refl _)
theorem Inv.lstM (I : Inv X pins σ H s) (hH : H l = some (.lst xs)) : xs.length ≤ sizeLine ∧ ∃ (its : List Value) (n : Nat), Vals xs its ∧ xs.length = its.length ∧ s.heap.get? l = some { cls := .type "list", data := .seq its.toArray n } := by
  obtain ⟨z, its, n, r, e⟩ := I.hok l _ hH
  exact ⟨z, its, n, r, r.length, e⟩

theorem notLongL {n : Nat} (h : n ≤ sizeLine) : Builtin.List.listTooLong n = false := by
  unfold Builtin.List.listTooLong
  exact decide_eq_false (by omega)
end

section
variable {X : Cx}

/-! ### methods -/
inductive rAppend (x : V) (vs : List V) (H : Hp) (Q : VK) : Prop
  | mk (l : _) (xs : _) (y : _) (_ : x = .ref l) (_ : vs = [y]) (_ : H l = some (.lst xs)) (_ : xs.length < sizeLine) (_ : Q .non (upd H l (.lst (xs ++ [y])))) : rAppend  x vs H Q
theorem mt_append : MtM X "list.append" rAppend := by
  intro pins s σ H x vs v us Q I rx rv h
  obtain ⟨l, xs, y, rfl, rfl, hH, hz, q⟩ := h
  cases rx
  obtain ⟨u, rfl, ru⟩ := rv.one
  obtain ⟨z, its, n, r, hl, e⟩ := I.lstM hH
  refine call_meets F.slot_list_append ⟨_, e, rfl⟩ F.entry_list_append (F.args_list_append_2 _ _) (PySem.list_append l its.toArray n u (by rw [List.size_toArray]; omega)) ⟨e, ?_⟩
  refine ⟨.non, _, I.lset (its' := its ++ [u]) hH e (by simp) (r.append (.cons ru .nil)) ?_, rfl, q⟩
  rw [List.length_append, List.length_singleton]
  omega

def rExtend : V → List V → Hp → VK → Prop := fun x vs H Q => ∃ l b xs zs, x = .ref l ∧ vs = [.ref b] ∧ H l = some (.lst xs) ∧ H b = some (.lst zs) ∧ xs.length + zs.length ≤ sizeLine ∧ Q .non (upd H l (.lst (xs ++ zs)))
theorem mt_extend : MtM X "list.extend" rExtend := by
  intro pins s σ H x vs v us Q I rx rv h
  obtain ⟨l, b, xs, zs, rfl, rfl, hH, hB, hz, q⟩ := h
  cases rx
  obtain ⟨u, rfl, ru⟩ := rv.one
  cases ru
  obtain ⟨z, its, n, r, hl, e⟩ := I.lstM hH
  obtain ⟨z2, its2, n2, r2, hl2, e2⟩ := I.lstM hB
  have hsz : its.toArray.size + its2.toArray.size ≤ sizeLine := by rw [List.size_toArray, List.size_toArray]; omega
  have hlong : ¬ (!its.toArray.isEmpty && Builtin.List.listTooLong (its.toArray.size + its2.toArray.size)) = true := by
    rw [notLongL hsz, Bool.and_false]
    exact Bool.false_ne_true
  refine call_meets F.slot_list_extend ⟨_, e, rfl⟩ F.entry_list_extend (F.args_list_extend_2 _ _)
    (AutoSeq1.list_extend_list_list_0 l its.toArray n b its2.toArray n2 hlong (by rw [List.size_toArray]; omega) (by omega)) ⟨e, e2, ?_⟩
  refine ⟨.non, _, I.lset (its' := its ++ its2) hH e (by simp) (r.append r2) ?_, rfl, q⟩
  rw [List.length_append]
  omega

/-! ### list + list, list += list, list * int -/
inductive rCat (x : V) (y : V) (H : Hp) (Q : VK) : Prop
  | mk (l : _) (b : _) (xs : _) (zs : _) (_ : x = .ref l) (_ : y = .ref b) (_ : H l = some (.lst xs)) (_ : H b = some (.lst zs)) (_ : xs.length + zs.length ≤ sizeLine) (_ : ∀ p, H p = none → Q (.ref p) (upd H p (.lst (xs ++ zs)))) : rCat  x y H Q
theorem op_cat : OpR X (binaryOp .Add) rCat := by
  intro pins s σ H x y v u Q I rx ry h
  obtain ⟨l, b, xs, zs, rfl, rfl, hH, hB, hz, q⟩ := h
  cases rx
  cases ry
  obtain ⟨z, its, n, r, hl, e⟩ := I.lstM hH
  obtain ⟨z2, its2, n2, r2, hl2, e2⟩ := I.lstM hB
  refine PySem.P.add_list e e2 ?_ (by rw [List.size_toArray, List.size_toArray]; omega)
  have ea : its.toArray ++ its2.toArray = (its ++ its2).toArray := by simp
  rw [ea]
  exact ⟨.ref _, _, I.lnew (t' := s.toks) (r.append r2) (by rw [List.length_append]; omega), rfl, q _ I.fresh⟩
/-- a list times an int (a negative one is nothing) -/
def rRep : R2 := fun x y H Q => ∃ l k xs, x = .ref l ∧ y = .int k ∧ H l = some (.lst xs) ∧ -(2 ^ 63) ≤ k ∧ k < 2 ^ 63 ∧ xs.length * k.toNat ≤ sizeLine ∧
  ∀ p, H p = none → Q (.ref p) (upd H p (.lst (List.replicate k.toNat xs).flatten))
theorem len_rep {α : Type} (xs : List α) (k : Nat) : (List.replicate k xs).flatten.length = k * xs.length := by
  induction k with
  | zero => simp
  | succ k ih => rw [List.replicate_succ, List.flatten_cons, List.length_append, ih, Nat.succ_mul, Nat.add_comm]
theorem op_rep : OpR X (binaryOp .Mult) rRep := by
  intro pins s σ H x y v u Q I rx ry h
  obtain ⟨l, k, xs, rfl, rfl, hH, h1, h2, hz, q⟩ := h
  cases rx
  obtain ⟨t, rfl⟩ := ry
  obtain ⟨z, its, n, r, hl, e⟩ := I.lstM hH
  have hlen : its.toArray.size * k.toNat ≤ sizeLine := by rw [List.size_toArray, ← hl]; exact hz
  have hcap : ¬ its.toArray.size * k.toNat > (2 ^ 63 - 1) / 8 := by
    have : (sizeLine : Nat) ≤ (2 ^ 63 - 1) / 8 := by decide
    omega
  have hfit : ¬ (!Builtin.List.listFitsIndex k) = true := by
    rw [fitsIndex_both h1 h2]
    exact Bool.false_ne_true
  have hlong : ¬ Builtin.List.listTooLong (its.toArray.size * k.toNat) = true := by
    rw [notLongL hlen]
    exact Bool.false_ne_true
  have hnew : List.foldl (fun x1 x2 => x1 ++ x2) #[] (List.replicate (if its.toArray.isEmpty = true then 0 else k.toNat) its.toArray) = (List.replicate k.toNat its).flatten.toArray := by
    have f0 : ∀ m : Nat, List.foldl (fun x1 x2 => x1 ++ x2) #[] (List.replicate m its.toArray) = (List.replicate m its).flatten.toArray := fun m => by
      have := foldl_rep its m []
      rw [List.nil_append] at this
      exact this
    rw [f0]
    cases its with
    | nil => simp
    | cons a r' => rw [if_neg (by simp)]
  refine wpAny_binaryOp_repeat_ref (T := "list") (U := "int") (by decide) ⟨_, e, rfl⟩ (fun s' => typeIs_int s' k t) noFill_list_mul F.fills_int_mul F.slot_int_rmul repeat_list F.slot_int_index.lookup
    (call_meets F.slot_int_rmul (typeIs_int s k t) F.entry_int_rmul (F.args_int_rmul_2 _ _) (int___rmul___int_list k t l its.toArray n)
      ⟨e, rfl, ⟨_, e, rfl⟩, call_meets F.slot_list_mul ⟨_, e, rfl⟩ F.entry_list_mul (F.args_list_mul_2 _ _) (AutoListH.list___mul___list_int_3 l its.toArray n k t hfit hcap hlong) ⟨e, ?_⟩⟩)
  rw [hnew]
  exact ⟨.ref _, _, I.lnew (t' := s.toks) (r.rep k.toNat) (by rw [len_rep, Nat.mul_comm]; exact hz), rfl, q _ I.fresh⟩

/-! ### del xs[i] -/
end

/-! ### xs[a:b] = ys -/
section
variable {prog : Program} {w : World} {A : Around} {E : Value → Shared → Prop} {s : Shared}
end

section
variable {X : Cx}
end
end L2

namespace Att
open PySem PySem.W PySem.Calls PyProof.Rows

/-! ### the script -/
theorem ints_of_wellAll {P : Params} {h : Heap} : ∀ (ns : List Int) (vs : List Value), WellAll P h vs (ns.map WData.int) → IntsAre vs ns := by
  intro ns
  induction ns with
  | nil =>
    intro vs w
    rw [List.map_nil] at w
    cases w
    exact .nil
  | cons n ns ih =>
    intro vs w
    rw [List.map_cons] at w
    cases w with
    | cons a b =>
      cases a
      exact .cons _ _ (ih _ b)

theorem script_of {l : OpenLaw} {n : Nat} (hn : l.most = some n) {P : Params} {h : Heap} {args : List WData} {vals : List Value}
    (hpre : l.row.toRowW.claim.pre args = true) (hwl : WellAll P h vals args) :
    ∃ a vs ns, vals = [Value.ref a] ∧ args = [WData.list (ns.map WData.int)] ∧ h.get? a = some { cls := .type "list", data := .seq vs.toArray } ∧ IntsAre vs ns ∧ ns.length ≤ n := by
  have hsh : WShape.hasAll [] args [.list .int] = true := (pre_splitW hpre).1
  have hc : l.pre.holds [] { args := args } = true := (pre_splitW hpre).2
  obtain ⟨d, r, rfl, h1, h2⟩ := hasAllW_cons hsh
  obtain rfl := hasAllW_nil h2
  obtain ⟨xs, rfl, h3⟩ := hasW_list h1
  obtain ⟨ns, rfl⟩ := items_int h3
  have hlen : ns.length ≤ n := by
    unfold OpenLaw.pre at hc
    have h4 : (WTm.not (.lt (.lit (.int (n : Int))) (.len (.arg 0)))).holds [] { args := [.list (ns.map .int)] } = true := by
      have h4 := (holds_andW hc).1
      rw [hn] at h4
      exact h4
    have h5 := condW_of h4 (w_not (w_lt w_lit (w_len_list (w_arg rfl))))
    rw [List.length_map] at h5
    refine Nat.le_of_not_lt fun q => ?_
    have q' : (n : Int) < ((ns.length : Nat) : Int) := by omega
    first
      | (rw [decide_eq_true q'] at h5; exact absurd h5 (by decide))
      | (simp at h5; omega)
  cases hwl with
  | cons w1 w2 =>
    cases w2
    cases w1 with
    | list ho hall => exact ⟨_, _, ns, rfl, rfl, ho, ints_of_wellAll ns _ hall, hlen⟩

theorem post_true (l : OpenLaw) (args : List WData) : l.row.toRowW.claim.post args (.bool true) args = true :=
  postW_of (r := l.row.toRowW) (X := (true == true))
    (show WShape.has [] (.bool true) .bool = true by first | rfl | decide | simp [WShape.has, WShape.arms, WShape.armsAll])
    (show (WTm.eq .res (.lit (.bool true))).value [] { args := args, res := some (.bool true), after := args } = some (.bool (true == true)) from w_eq_bool (w_res rfl) w_lit) rfl

/-! ### the attachment: holds_open's last premise (the goal 'hc' behind k_head) from a wpAny of the law's body -/
/-- the same from a codeAny of the CALL (for a layer whose function contracts speak of calls) -/
theorem attach_call {l : OpenLaw} {n : Nat} {q : Program} {loose : List Str} {XP : (Str → Option Value) → Heap → Prop} {YP : World → Heap → Prop} {d : DefRec}
    (hn : l.most = some n) (hdf : d.params.defaults = [])
    (call : ∀ (w : World) (s₀ s₁ : Shared) (mg mb : Str → Option Value) (fa : Addr) (o : Obj) (pm cd doc : Value) (a : Addr) (vs : List Value) (ns : List Int),
      Ground q loose [] XP w s₀ mg mb s₁.heap → YP w s₁.heap →
      s₁.heap.get? fa = some o → o.data = .func (docDef d.name d.params d.body d.scope pm cd doc) → s₁.heap.CodeRec cd d.name → mg d.name = some (.ref fa) →
      s₁.heap.get? a = some { cls := .type "list", data := .seq vs.toArray } → IntsAre vs ns → ns.length ≤ n → s₁.gens = #[] →
      codeAny (model l.prog w) callerA (.call (.ref fa) ⟨[.ref a], []⟩) (fun r s' => r = .ok (.ret (.bool true)) ∧ OldK s₁.heap s'.heap ∧ s'.os = s₁.os ∧ AllBare s'.gens) s₁) :
    WalkO q loose XP YP l.row.toRowW d [] (fun f vs => PySem.call f vs) := by
  intro w s₀ s₁ mg mb G Y fa o pm cd doc dV kV ho hd hcd hD hmg hg args vals as hpre hlay hrd hwl hlo
  obtain rfl : dV = .none := Dflts.none hD hdf
  obtain rfl : kV = .none := Dflts.noKw hD
  obtain ⟨a, vs, ns, rfl, rfl, hobj, hints, hlen⟩ := script_of hn hpre hwl
  refine enter_call (codeAny_mono (call w s₀ s₁ mg mb fa o pm cd doc a vs ns G Y ho (fd_plain hd) hcd hmg hobj hints hlen hg) fun r s' hq => ?_)
  obtain ⟨rfl, h2, h3, h4⟩ := hq
  exact ⟨.inl ⟨.bool true, .bool true, [], rfl, fun _ => rfl, .bool true, post_true l _, fun _ => ⟨List.Pairwise.nil, fun _ hm => (nomatch hm)⟩⟩, h2, h3, h4⟩

/-! ### rules over ANY heap (no ledger) from facts about the written part K: the library's own take a ledger (News) for what they write -/
section
variable {prog : Program} {w : World} {A : Around} {E : Value → Shared → Prop} {s : Shared} {K : Frag}

/-! the whole heap as the ledger: makes every rule that writes through a ledger a rule over any heap -/
def ledger (h : Heap) (L d : Addr) : List (Addr × Obj) := (List.range h.objs.size).filterMap fun a => if a = L ∨ a = d then none else (h.get? a).map fun o => (a, o)
end
end Att

namespace L2
open PySem PySem.Spec PyProof.Rows

theorem vals_ints : ∀ {vs : List Value} {ns : List Int}, IntsAre vs ns → Vals (ns.map V.int) vs
  | _, _, .nil => .nil
  | _, _, .cons n t h => .cons ⟨t, rfl⟩ (vals_ints h)

/-- nothing is tracked but the script, known to the object (or it is an object of the module) -/
def Only (H : Hp) : Prop := ∀ b, H b = none ∨ ∃ o xs, H b = some (.frz o (.lst xs))

/-- THE HEAD: the law's promise, at the heap behind the top. F, the promise of the law's def, may use that base is part of the heap (so K.In base, base.Ns mainGlobals mg stand in Mod) -/
theorem law_call {cm : Bool} {P : Program} {w : World} {K : PySem.W.Frag} {mg mb : Str → Option Value} {CX : CXT} {k : Nat} {fa a : Addr} {fd : FuncData} {x : Str} {sp : Sp} {s₁ : Shared} {vs : List Value} {ns : List Int}
    (KX : K.In s₁.heap) (hns : s₁.heap.Ns mainGlobals mg) (hb : s₁.heap.Ns builtinsNs mb) (hbb : ∀ x : Str, x ≠ "__name__" → mb x = bootBuiltins x) (hlim : s₁.heap.NoLimit) (hg : s₁.gens = #[])
    (ha : s₁.heap.get? a = some { cls := .type "list", data := .seq vs.toArray }) (hi : IntsAre vs ns) (hl : ns.length ≤ sizeLine) (hr : Room cm k callerA)
    (F : ∀ base : Heap, K.In base → base.Ns mainGlobals mg → FnOk P w K mg base CX cm k fa fd [x] sp) (hbind : ∀ (s : Shared) (u : Value), BindsTo s fd ⟨[u], []⟩ [(x, u)])
    (hsp : ∀ H : Hp, Only H → SqL K H a (ns.map V.int) → sp [.ref a] H (fun v _ => v = .bl true) fun _ _ _ => False)
    (hCX : ∀ H e s', CX [] H s₁ (fun _ _ _ => False) e s' → False) :
    codeAny (model P w) callerA (.call (.ref fa) ⟨[.ref a], []⟩) (fun r s' => r = .ok (.ret (.bool true)) ∧ OldK s₁.heap s'.heap ∧ s'.os = s₁.os ∧ AllBare s'.gens) s₁ := by
  have rv := vals_ints hi
  have lenV := hi.length
  -- from an abstract heap in which nothing but the script may be tracked
  have core : ∀ H : Hp, Only H → SqL K H a (ns.map V.int) → HOk P w H s₁.heap → (∀ b, H b ≠ none → b = a) → (H a ≠ none → K.lookup a = none) →
      codeAny (model P w) callerA (.call (.ref fa) ⟨[.ref a], []⟩) (fun r s' => r = .ok (.ret (.bool true)) ∧ OldK s₁.heap s'.heap ∧ s'.os = s₁.os ∧ AllBare s'.gens) s₁ := by
    intro H hO hS hok hA hK
    have base_of : ∀ {b : Addr} {o : Obj}, s₁.heap.get? b = some o → H b = none → (hidT s₁.heap H).get? b = some o := fun e n => hidT_get e n
    have noA : ∀ {b : Addr} {o : Obj} {es : Array DictEntry} {ep : Nat}, s₁.heap.get? b = some o → o.data = .dict es ep → H b = none := fun {b o es ep} e d => by
      cases q : H b with
      | none => rfl
      | some u =>
        have e' : b = a := hA b (by rw [q]; simp)
        subst e'
        rw [ha] at e; cases e
        have d' : Data.seq vs.toArray _ = Data.dict es ep := d
        cases d'
    have nsK : ∀ {b : Addr} {m : Str → Option Value}, s₁.heap.Ns b m → (hidT s₁.heap H).Ns b m := fun {b m} ⟨o, es, ep, e, d, r⟩ => ⟨o, es, ep, base_of e (noA e d), d, r⟩
    have hKb : K.In (hidT s₁.heap H) := fun b o e => base_of (KX b o e) (by
      cases q : H b with
      | none => rfl
      | some u =>
        have e' : b = a := hA b (by rw [q]; simp)
        subst e'
        rw [hK (by rw [q]; simp)] at e; cases e)
    have hM : Mod K mg (hidT s₁.heap H) := ⟨hKb, nsK hns, ⟨mb, nsK hb, hbb⟩, let ⟨mc, h1, h2⟩ := hlim; ⟨mc, nsK h1, h2⟩⟩
    have e0 : Env0 P w K mg (hidT s₁.heap H) callerA [] s₁ H := ⟨rfl, hM, fun b o e => of_hidT e, Nat.le_of_eq (hidT_size _ _), trivial, fun b hb => absurd (show b ∈ ([] : List Addr) from hb) (by simp), hok, .of_eq hg⟩
    refine codeAny_mono ((F _ hKb (nsK hns)).run callerA [] s₁ H ⟨[.ref a], []⟩ [.ref a] [.ref a] _ _ hr e0 (hbind s₁ (.ref a)) (.cons rfl .nil) (hsp H hO hS)) fun r s' h => ?_
    cases r with
    | error e => exact (hCX H e s' h).elim
    | ok fl =>
      cases fl with
      | next => exact False.elim h
      | brk => exact False.elim h
      | cont => exact False.elim h
      | ret u =>
        obtain ⟨v, H', os, bare, un, hok', r', q⟩ := h
        have q' : v = .bl true := q
        subst q'
        obtain rfl : u = Value.bool true := r'
        refine ⟨rfl, OldK.of_keep fun b o e => ?_, os, bare⟩
        cases q : H b with
        | none => exact un.keep b o e q (by intro z; exact absurd (show b ∈ ([] : List Addr) from z) (by simp)) (by simp)
        | some u =>
          rcases hO b with z | ⟨ob, xs, z⟩
          · rw [q] at z; cases z
          · have z2 := un.frzs b ob _ z
            obtain ⟨e1, _⟩ := hok b _ z
            obtain ⟨e2, _⟩ := hok' b _ z2
            rw [e] at e1; cases e1
            exact e2
  cases hk : K.lookup a with
  | some o =>
    -- the script is one of the module's own objects
    have e := KX a o hk
    rw [ha] at e
    cases e
    refine core (fun _ => none) (fun _ => .inl rfl) (.inr ⟨_, vs.toArray, _, hk, rfl, rfl, rfl, by rw [List.size_toArray, lenV]; exact hl, by simpa using rv⟩) (fun b u z => by have z' : (none : Option HO) = some u := z; cases z') (fun b z => absurd rfl z) fun z => absurd rfl z
  | none =>
    refine core (fun b => if b = a then some (.frz { cls := .type "list", data := .seq vs.toArray } (.lst (ns.map V.int))) else none) (fun b => ?_) (.inl (.inr ⟨{ cls := .type "list", data := .seq vs.toArray }, if_pos rfl⟩)) (fun b u z => ?_) (fun b z => ?_) fun _ => hk
    · by_cases hb : b = a
      · exact .inr ⟨_, _, if_pos hb⟩
      · exact .inl (if_neg hb)
    · by_cases hb : b = a
      · have z' := (if_pos hb).symm.trans z
        cases z'
        subst hb
        exact ⟨ha, by rw [List.length_map]; exact hl, vs, _, rv, ha⟩
      · have z' := (if_neg hb).symm.trans z
        cases z'
    · by_cases hb : b = a
      · exact hb
      · exact absurd (if_neg hb) z
end L2

namespace L2
open PySem PySem.Spec PyProof.Rows

/-- the goal that k_head leaves (case hc), from the law's promise. F gives the function object fd (K's own) once, then the promise over every base -/
theorem walk_of {cm : Bool} {l : PySem.W.OpenLaw} {n k : Nat} {q : Program} {loose : List Str} {XP : (Str → Option Value) → Heap → Prop} {YP : World → Heap → Prop} {d : DefRec} {K : Params → PySem.W.Frag} {CX : World → CXT} {sp : World → Sp} {x : Str}
    (hn : l.most = some n) (hn2 : n ≤ sizeLine) (hdf : d.params.defaults = []) (hr : Room cm k callerA)
    (hY : ∀ (w : World) (h : Heap), YP w h → (K w.params).In h)
    (F : ∀ (w : World) (mg : Str → Option Value) (fa : Addr) (h : Heap), (K w.params).In h → h.Ns mainGlobals mg → mg d.name = some (.ref fa) →
      ∃ fd : FuncData, (∀ (s : Shared) (u : Value), BindsTo s fd ⟨[u], []⟩ [(x, u)]) ∧
        ∀ base : Heap, (K w.params).In base → base.Ns mainGlobals mg → FnOk l.prog w (K w.params) mg base (CX w) cm k fa fd [x] (sp w))
    (hsp : ∀ (w : World) (H : Hp) (a : Addr) (ns : List Int), ns.length ≤ n → Only H → SqL (K w.params) H a (ns.map V.int) → sp w [.ref a] H (fun v _ => v = .bl true) fun _ _ _ => False)
    (hCX : ∀ (w : World) (H : Hp) (s : Shared) (e : Value) (s' : Shared), CX w [] H s (fun _ _ _ => False) e s' → False) :
    PySem.W.WalkO q loose XP YP l.row.toRowW d [] (fun f vs => PySem.call f vs) := by
  refine Att.attach_call hn hdf fun w s₀ s₁ mg mb fa o pm cd doc a vs ns G Y ho hd hcd hmg hobj hints hlen hg => ?_
  have KX := hY w _ Y
  obtain ⟨fd, hb, hF⟩ := F w mg fa _ KX G.T.g hmg
  exact law_call KX G.T.g G.T.b G.T.builtins G.T.nolimit hg hobj hints (Nat.le_trans hlen hn2) hr hF hb (fun H hO hS => hsp w H a ns hlen hO hS) fun H e s' => hCX w H s₁ e s'
end L2



/-! SHORT WORDS over the layer: a def of the text, its body, what a loop and a test want. -/
namespace L2
open PySem PySem.Spec PyProof.Rows

/-! ### the text by places -/
/-- the j-th statement of a class's body -/
def inClass (s : Stmt) (j : Nat) : Stmt := match s with
  | .ClassDef _ _ _ body _ _ _ _ _ _ _ => body.getD j (.Pass ⟨0, 0, 0, 0⟩)
  | _ => .Pass ⟨0, 0, 0, 0⟩
def defArgs (s : Stmt) : Arguments := match s with
  | .FunctionDef _ a _ _ _ _ _ _ _ _ => a
  | _ => { posonlyargs := [], args := [], vararg := none, kwonlyargs := [], kw_defaults := [], kwarg := none, defaults := [] }
def defBody (s : Stmt) : List Stmt := match s with
  | .FunctionDef _ _ b _ _ _ _ _ _ _ => b
  | _ => []
def defScope (s : Stmt) : Scope := match s with
  | .FunctionDef _ _ _ _ _ _ sc _ _ _ => sc
  | _ => { kind := .function, names := [], isGenerator := false, isCoroutine := false }

/-! ### no exception leaves a def -/
abbrev E0 : XK := fun _ _ _ => False
/-! ### a def (or method) of the text as it stands behind the top -/
structure Fun (K : PySem.W.Frag) (x qual : Str) (st : Stmt) (f : Addr) (fd : FuncData) : Prop where
  ex : ∃ (oc : Value) (od : Option Addr) (kV doc pm : Value) (an : Option Addr) (cdv ct : Value) (osl : Array (Option Value)),
    fd = PySem.W.fnOf x qual (defArgs st) (defBody st) (defScope st) .none kV doc pm an cdv ct ∧ K.lookup f = some ⟨oc, od, .func fd, osl⟩ ∧ PySem.W.codeIn K cdv qual = true
  kp : PySem.W.keepIn K (.ref f) = true
section
variable {P : Program} {w : World} {K : PySem.W.Frag} {mg : Str → Option Value} {base : Heap}
/-- how its arguments bind (no defaults): h is «fun _ _ _ _ _ _ us hl => match us, hl with | [_, _], _ => rfl», one _ a parameter -/
theorem Fun.binds {x qual : Str} {st : Stmt} {f : Addr} {fd : FuncData} {ps : List Str} (F : Fun K x qual st f fd)
    (h : ∀ (kV doc pm : Value) (an : Option Addr) (cdv ct : Value) (us : List Value), us.length = ps.length → bindArgs (PySem.W.fnOf x qual (defArgs st) (defBody st) (defScope st) .none kV doc pm an cdv ct) ⟨us, []⟩ = pure (ps.zip us)) : Binds K fd ps [] := by
  obtain ⟨oc, od, kV, doc, pm, an, cdv, ct, osl, rfl, lk, hcd⟩ := F.ex
  exact .all (h kV doc pm an cdv ct)
theorem fun_mk {x qual : Str} {st : Stmt} {f : Addr} {oc : Value} {od an : Option Addr} {osl : Array (Option Value)} {kV doc pm cdv ct : Value} (l : K.lookup f = some ⟨oc, od, .func (PySem.W.fnOf x qual (defArgs st) (defBody st) (defScope st) .none kV doc pm an cdv ct), osl⟩)
    (c : PySem.W.codeIn K cdv qual = true) (k : PySem.W.keepIn K (.ref f) = true) : Fun K x qual st f (PySem.W.fnOf x qual (defArgs st) (defBody st) (defScope st) .none kV doc pm an cdv ct) := ⟨⟨oc, od, kV, doc, pm, an, cdv, ct, osl, rfl, l, c⟩, k⟩
end
/-! ### expressions in short: the name that stands in the i-th slot -/
section
variable {X : Cx}
theorem pv (i : Nat) {x : Str} {pos : Pos} (hN : X.N[i]? = some x := by rfl) (hv : Vis X.env.scope x := by first | exact Or.inl rfl | exact Or.inr (Or.inl rfl) | exact Or.inr (Or.inr rfl)) (hd : (x == ("__debug__" : Str)) = false := by decide)
    (hcd : (x == ("__classdict__" : Str)) = false := by decide) : PE X (.Name x pos) (tVar i) := pe_var hN hv hd hcd
end

/-! ### tests -/
theorem iteF {A B : Prop} (h : B) : if false = true then A else B := by
  rw [if_neg Bool.false_ne_true]
  exact h
theorem iteT {A B : Prop} (h : A) : if true = true then A else B := by
  rw [if_pos rfl]
  exact h
theorem ite2 {c A B : Prop} [Decidable c] (h1 : c → A) (h2 : ¬ c → B) : if c then A else B := by
  by_cases h : c
  · rw [if_pos h]
    exact h1 h
  · rw [if_neg h]
    exact h2 h
/-! ### heaps -/
/-- all that was tracked is as it was -/
def Same (H H' : Hp) : Prop := ∀ b o, H b = some o → H' b = some o
theorem Same.refl (H : Hp) : Same H H := fun _ _ h => h
theorem Same.trans {H H1 H2 : Hp} (a : Same H H1) (b : Same H1 H2) : Same H H2 := fun c o h => b c o (a c o h)
theorem Same.free {H H' : Hp} (e : Same H H') {l : Addr} (h : H' l = Option.none) : H l = Option.none := by
  cases q : H l with
  | none => rfl
  | some o =>
    rw [e l o q] at h
    cases h
theorem Same.seq {K : PySem.W.Frag} {H H' : Hp} {a : Addr} {xs : List V} (e : Same H H') (h : SqL K H a xs) : SqL K H' a xs := by
  rcases h with (h | ⟨o, h⟩) | h
  · exact .inl (.inl (e _ _ h))
  · exact .inl (.inr ⟨o, e _ _ h⟩)
  · exact .inr h

/-! ### a dict's pairs: keys that differ -/
section
variable {κ : Type} [DecidableEq κ]
theorem valV_not {kvs : List (κ × V)} {k : κ} (h : valV kvs k = none) : ¬ k ∈ kvs.map (·.1) := by
  intro m
  obtain ⟨p, hp, e⟩ := List.mem_map.mp m
  have q : (kvs.any fun kv => decide (kv.1 = k)) = true := List.any_eq_true.mpr ⟨p, hp, decide_eq_true e⟩
  rw [valV_any, h] at q
  exact absurd q (by simp)
theorem valV_in {kvs : List (κ × V)} {k : κ} {v : V} (h : valV kvs k = some v) : k ∈ kvs.map (·.1) := by
  have q : (kvs.any fun kv => decide (kv.1 = k)) = true := by
    rw [valV_any, h]
    all_goals rfl
  obtain ⟨p, hp, e⟩ := List.any_eq_true.mp q
  exact List.mem_map.mpr ⟨p, hp, of_decide_eq_true e⟩
end
end L2


set_option Elab.async false
set_option linter.all false
set_option maxRecDepth 100000
namespace L2
open PySem PySem.Spec PyProof.Rows PySem.W

/-! ### exceptions -/
/-- how an exception of the program lies behind a call -/
def CXF (P : Program) (w : World) : CXT := fun outer H s E e s' =>
  ∃ (ea : Addr) (cls a0 : Value) (B : Heap) (H' : Hp), e = .ref ea ∧ s'.os = s.os ∧ AllBare s'.gens ∧ Heap.FlyingW B outer ea cls a0 s'.heap ∧
    Un (frs outer) [] H H' s.heap s'.heap ∧ HOk P w H' B ∧ (∀ b o, s.heap.get? b = some o → H b = none → b ∉ frs outer → B.get? b = some o) ∧ (∀ b o, s.heap.get? b = some o → b ∉ frs outer → ∃ o', B.get? b = some o') ∧ E cls none H'

theorem passF {P : Program} {w : World} {X : Cx} : Passes (CXF P w) X (fun _ => E0) := fun _ _ _ _ _ _ _ ⟨_, _, _, _, _, _, _, _, _, _, _, _, _, h⟩ => h.elim

/-- what an exception that is raised or passes here must lead to -/
structure XOk (X : Cx) (E : St → XK) : Prop where
  raise : ∀ (pins : List (Addr × Obj)) (σ : St) (H : Hp) (s : Shared) (h' : Heap) (e : Addr) (cls : Value) (args : List Value), Inv X pins σ H s → Heap.MadeExcOf s.heap h' e cls args → E σ cls none H → X.xe (.ref e) { s with heap := h' }
  pass : Passes (CXF X.prog X.w) X E
  own : PassesOwn (model X.prog X.w) X.A X.env X.xe

theorem HOk.hide {P : Program} {w : World} {H : Hp} {h : Heap} {as : List Addr} (ok : HOk P w H h) (hf : ∀ b ∈ as, H b = none) : HOk P w H (hideAll h as) := fun a o e =>
  (ok a o e).stay (fun b u hb q => hideAll_get _ q fun hm => by
    rcases hb with rfl | hb
    · rw [hf _ hm] at e; cases e
    · rw [hf _ hm] at hb; cases hb) (fun b q => q) fun b xs q => q

section
variable {P : Program} {w : World} {K : PySem.W.Frag} {mg : Str → Option Value} {base : Heap} {N : List Str} {qual : Str} {scope : Scope} {f : Addr} {cd : Value} {A : Around} {outer : List Env} {s : Shared} {H : Hp} {E : XK} {cm : Bool}

theorem tracked_in {P : Program} {w : World} {H : Hp} {h : Heap} {a : Addr} {o : HO} (x : ObjOk P w H h a o) : ∃ q, h.get? a = some q := by
  cases o with
  | lst xs => obtain ⟨_, its, n, _, e⟩ := x; exact ⟨_, e⟩
  | tup xs => obtain ⟨_, its, _, o, e, _⟩ := x; exact ⟨_, e⟩
  | dK kvs => obtain ⟨_, _, vs, _, o, es, ep, e, _⟩ := x; exact ⟨_, e⟩
  | dT kvs => obtain ⟨_, _, xs, _, o, es, ep, e, _⟩ := x; exact ⟨_, e⟩
  | set S n => obtain ⟨o, es, ep, t, e, _⟩ := x; exact ⟨_, e⟩
  | ins C dx fs => obtain ⟨_, _, _, e, _⟩ := x; exact ⟨_, e⟩
  | own y => exact x
  | xd fs => obtain ⟨mA, ⟨o, es, ep, e, _⟩, _⟩ := x; exact ⟨_, e⟩
  | met f y => exact ⟨_, x⟩
  | rng lo hi => obtain ⟨t, u, v, e⟩ := x; exact ⟨_, e⟩
  | frz o u => exact ⟨_, x.1⟩
  | tbl ps => exact ⟨_, x⟩
  | ext φ => exact x.2.1

/-- the two stations of a def's body: an exception made here, one that comes from a callee -/
theorem xok_def : XOk (cxOf (CXF P w) cm P w K mg base N qual scope f cd A outer s H E) (fun _ => E) := by
  refine ⟨?_, ?_, PassesOwn.leaving⟩
  · intro pins σ H1 s1 h' e cls args I hx hE
    have hfr : (A.deeper (envOfC qual scope s.heap.objs.size f cd)).frames = some (envOfC qual scope s.heap.objs.size f cd :: outer) := I.ok.frames
    have hst : s1.heap.FunFrames base (envOfC qual scope s.heap.objs.size f cd :: outer) := I.stack
    have hin : ∀ env ∈ (envOfC qual scope s.heap.objs.size f cd :: outer), ∀ b, env.frame = some b → b ∈ (envOfC qual scope s.heap.objs.size f cd :: outer).filterMap (·.frame) := fun env he b hb => List.mem_filterMap.mpr ⟨env, he, hb⟩
    have hfree : ∀ b ∈ (envOfC qual scope s.heap.objs.size f cd :: outer).filterMap (·.frame), H1 b = none := I.stkFree
    show wpAny (model P w) (A.deeper (envOfC qual scope s.heap.objs.size f cd)) (leaving (envOfC qual scope s.heap.objs.size f cd) (.ref e)) (fun _ s'' => CXF P w outer H s E (.ref e) s'') (fun e' s'' => CXF P w outer H s E e' s'') { s1 with heap := h' }
    have hloc : ∀ b o, s.heap.get? b = some o → b ∉ frs outer → b ∉ (envOfC qual scope s.heap.objs.size f cd :: outer).filterMap (·.frame) := fun b o q hb hm => by
      obtain ⟨env, he, hf⟩ := List.mem_filterMap.mp hm
      rcases List.mem_cons.mp he with rfl | he
      · have z : s.heap.objs.size = b := Option.some.inj hf
        exact absurd (Heap.lt_size q) (by rw [z]; exact Nat.lt_irrefl _)
      · exact hb (List.mem_filterMap.mpr ⟨env, he, hf⟩)
    refine wpAny_leaves_madeW (s := { s1 with heap := h' }) (h := s1.heap) (base := hideAll s1.heap ((envOfC qual scope s.heap.objs.size f cd :: outer).filterMap (·.frame))) (L := s.heap.objs.size) hfr rfl (fun b o q => of_hideAll _ q) (funFrames_hide hst hin) hx fun h2 t x1 x2 x3 x4 => ?_
    have bs : Un (frs outer) [] H H1 s.heap s1.heap := I.base
    have kB : ∀ b o, s.heap.get? b = some o → H b = none → b ∉ frs outer → (hideAll s1.heap ((envOfC qual scope s.heap.objs.size f cd :: outer).filterMap (·.frame))).get? b = some o := fun b o q hn hb =>
      hideAll_get _ (bs.keep b o q hn hb (by simp)) (hloc b o q hb)
    have hB : HOk P w H1 (hideAll s1.heap ((envOfC qual scope s.heap.objs.size f cd :: outer).filterMap (·.frame))) := I.hok.hide hfree
    refine ⟨e, cls, .ref t, _, H1, rfl, I.os, I.bare, x1, ?_, hB, kB, fun b o q hb => ?_, hE⟩
    rotate_left
    · obtain ⟨o', e1⟩ := bs.there b o q (by simp)
      exact ⟨o', hideAll_get _ e1 (hloc b o q hb)⟩
    refine ⟨fun b o q hn hb _ => x1.1 b o (kB b o q hn hb), fun b o q hn hb _ => ?_, fun b o q hn _ => bs.free b o q hn (by simp), fun b o q _ => ?_, bs.tups, bs.frzs, bs.tbls⟩
    · obtain ⟨sl, e1⟩ := bs.slot b o q hn hb (by simp)
      have hfo : s1.heap.FunFrames base outer := hst.2.2
      obtain ⟨_, o2, e2, hnf⟩ := hfo.mem hb
      rw [e1] at e2
      cases e2
      obtain ⟨sl2, e3⟩ := x4 b _ (hx.keeps _ _ e1) hnf
      exact ⟨sl2, e3⟩
    · cases q1 : H1 b with
      | some u =>
        obtain ⟨oo, z⟩ := tracked_in (hB b u q1)
        exact ⟨oo, x1.1 b oo z⟩
      | none =>
        cases q0 : H b with
        | none =>
          by_cases hb : b ∈ frs outer
          · obtain ⟨sl, e1⟩ := bs.slot b o q q0 hb (by simp)
            have hfo : s1.heap.FunFrames base outer := hst.2.2
            obtain ⟨_, o2, e2, hnf⟩ := hfo.mem hb
            rw [e1] at e2
            cases e2
            obtain ⟨sl2, e3⟩ := x4 b _ (hx.keeps _ _ e1) hnf
            exact ⟨_, e3⟩
          · exact ⟨o, x1.1 b o (kB b o q q0 hb)⟩
        | some u =>
          obtain ⟨o', e1⟩ := bs.there b o q (by simp)
          by_cases hb : b ∈ frs outer
          · have hfo : s1.heap.FunFrames base outer := hst.2.2
            obtain ⟨_, o2, e2, hnf⟩ := hfo.mem hb
            obtain ⟨sl2, e3⟩ := x4 b _ (hx.keeps _ _ e2) hnf
            exact ⟨_, e3⟩
          · exact ⟨o', x1.1 b o' (hideAll_get _ e1 (hloc b o q hb))⟩
  · rintro pins σ H1 s1 e s2 I ⟨ea, cls, a0, B, H', rfl, os, bare, hfl, un, hB, kB, tB, hE⟩
    have hfr : (A.deeper (envOfC qual scope s.heap.objs.size f cd)).frames = some (envOfC qual scope s.heap.objs.size f cd :: outer) := I.ok.frames
    show wpAny (model P w) (A.deeper (envOfC qual scope s.heap.objs.size f cd)) (leaving (envOfC qual scope s.heap.objs.size f cd) (.ref ea)) (fun _ s'' => CXF P w outer H s E (.ref ea) s'') (fun e' s'' => CXF P w outer H s E e' s'') s2
    have hfl : Heap.FlyingW B (envOfC qual scope s.heap.objs.size f cd :: outer) ea cls a0 s2.heap := hfl
    have un : Un (frs (envOfC qual scope s.heap.objs.size f cd :: outer)) [] H1 H' s1.heap s2.heap := un
    have kB : ∀ b o, s1.heap.get? b = some o → H1 b = none → b ∉ frs (envOfC qual scope s.heap.objs.size f cd :: outer) → B.get? b = some o := kB
    have hloc : ∀ b o, s.heap.get? b = some o → b ∉ frs outer → b ∉ frs (envOfC qual scope s.heap.objs.size f cd :: outer) := fun b o q hb hm => by
      obtain ⟨env, he, hf⟩ := List.mem_filterMap.mp hm
      rcases List.mem_cons.mp he with rfl | he
      · have z : s.heap.objs.size = b := Option.some.inj hf
        exact absurd (Heap.lt_size q) (by rw [z]; exact Nat.lt_irrefl _)
      · exact hb (List.mem_filterMap.mpr ⟨env, he, hf⟩)
    have hup : ∀ b, b ∈ frs outer → b ∈ frs (envOfC qual scope s.heap.objs.size f cd :: outer) := fun b hb => by
      obtain ⟨env, he, hf⟩ := List.mem_filterMap.mp hb
      exact List.mem_filterMap.mpr ⟨env, List.mem_cons_of_mem _ he, hf⟩
    have bs : Un (frs outer) [] H H1 s.heap s1.heap := I.base
    refine wpAny_leaves_onW (L := s.heap.objs.size) hfr rfl hfl fun h2 x1 x4 => ?_
    have kB2 : ∀ b o, s.heap.get? b = some o → H b = none → b ∉ frs outer → B.get? b = some o := fun b o q hn hb => kB b o (bs.keep b o q hn hb (by simp)) (bs.free b o q hn (by simp)) (hloc b o q hb)
    have hfo : s2.heap.FunFrames B outer := hfl.2.2.1.2.2
    refine ⟨ea, cls, a0, B, H', rfl, os.trans I.os, bare, x1, ?_, hB, kB2, fun b o q hb => ?_, hE⟩
    rotate_left
    · obtain ⟨o', e1⟩ := bs.there b o q (by simp)
      exact tB b o' e1 (hloc b o q hb)
    refine ⟨fun b o q hn hb _ => x1.1 b o (kB2 b o q hn hb), fun b o q hn hb _ => ?_, fun b o q hn _ => ?_, fun b o q _ => ?_, fun b xs q => un.tups b xs (bs.tups b xs q), fun b o u q => un.frzs b o u (bs.frzs b o u q), fun b ps q => ?_⟩
    · obtain ⟨sl, e1⟩ := bs.slot b o q hn hb (by simp)
      obtain ⟨sl1, e2⟩ := un.slot b _ e1 (bs.free b o q hn (by simp)) (hup b hb) (by simp)
      obtain ⟨_, o2, e3, hnf⟩ := hfo.mem hb
      rw [e2] at e3
      cases e3
      obtain ⟨sl2, e4⟩ := x4 b _ e2 hnf
      exact ⟨sl2, e4⟩
    · by_cases hb : b ∈ frs outer
      · obtain ⟨sl, e1⟩ := bs.slot b o q hn hb (by simp)
        exact un.free b _ e1 (bs.free b o q hn (by simp)) (by simp)
      · exact un.free b o (bs.keep b o q hn hb (by simp)) (bs.free b o q hn (by simp)) (by simp)
    · obtain ⟨o', e1⟩ := bs.there b o q (by simp)
      obtain ⟨o2, e2⟩ := un.there b o' e1 (by simp)
      by_cases hb : b ∈ frs outer
      · obtain ⟨_, o3, e3, hnf⟩ := hfo.mem hb
        obtain ⟨sl2, e4⟩ := x4 b _ e3 hnf
        exact ⟨_, e4⟩
      · obtain ⟨o3, e3⟩ := tB b o' e1 (hloc b o q hb)
        exact ⟨o3, x1.1 b o3 e3⟩
    · obtain ⟨more, z⟩ := bs.tbls b ps q
      obtain ⟨more2, z2⟩ := un.tbls b _ z
      exact ⟨more ++ more2, by rw [z2, Array.append_assoc]⟩
end
end L2

set_option Elab.async false
set_option linter.all false
set_option maxRecDepth 100000
set_option maxHeartbeats 4000000
namespace L2
open PySem PySem.Spec PyProof.Rows PySem.W PySem.Calls Builtin Builtin.ObjectAttr Builtin.Getset_descriptor

/-! ### an exception object: isinstance -/
section
variable {prog : Program} {w : World} {A : Around} {E : Value → Shared → Prop} {K : Frag} {x C : Addr} {o : Obj} {hh : Heap} {g : Array GenState} {d : Drawn} {t : Nat} {os : OsState}
end

/-- what of an own error class the text must have: it stands in the text at C, under ValueError -/
structure ErrC (K : Frag) (C : Addr) : Prop where
  ex : excIn K C [.type "ValueError", .type "Exception", .type "BaseException", .type "object"] "ValueError.__new__" = true
  cl : findIn K (.ref C) "__class__" = some (some (.builtin "object.__class__"))
  ob : mroIn K C (.type "object") = some true
  be : mroIn K C (.type "BaseException") = some true
  ga : findIn K (.ref C) "__getattribute__" = some (some (.builtin "BaseException.__getattribute__"))
  gn : findIn K (.ref C) "__getattr__" = some none
  tu : instIn K (.ref C) (.type "tuple") = some false
  kp : keepIn K (.ref C) = true
end L2

set_option Elab.async false
set_option linter.all false
set_option maxRecDepth 100000
set_option maxHeartbeats 4000000
namespace L2
open PySem PySem.Spec PyProof.Rows PySem.W PySem.Calls

/-! ### raise C(..) -/
theorem own_obj {K : Frag} {h : Heap} {C : Addr} {bmB : List Value} {newId : String} (X : K.In h) (q : excIn K C bmB newId = true) :
    ∃ bm N nm qn bs hdct sn sub ab col dd k0 k1 k2 k3 k5 mN, h.get? C = some (excClassObj nm qn C N bs bm hdct sn sub ab col dd k0 k1 k2 k3 k5 newId) ∧ h.Ns N mN ∧ mN "__init__" = none ∧ OwnTail h bmB bm := by
  unfold excIn at q
  split at q
  · rename_i dd cd sl ho
    split at q
    · rename_i C' bm k0 k1 k2 k3 n k5 hm hs
      simp only [Bool.and_eq_true, beq_iff_eq, Bool.not_eq_true'] at q
      obtain ⟨⟨⟨⟨⟨rfl, rfl⟩, hdel⟩, ht⟩, hok⟩, hni⟩ := q
      obtain ⟨nm, bs, mro, ns, qn, hd, sn, sub, ab, col, del⟩ := cd
      dsimp only at hm hdel hok hni
      subst hm hdel
      have hsl : sl = #[k0, k1, k2, k3, some (.builtin n), k5] := by
        obtain ⟨l⟩ := sl
        simp only at hs
        rw [hs]
      subst hsl
      exact ⟨bm, ns, nm, qn, bs, hd, sn, sub, ab, col, dd, k0, k1, k2, k3, k5, _, X _ _ ho, .of_isNs (isNs_of_in X hok), nsMap_none_of_in X hok hni, tail_of_in X ht⟩
    · cases q
  · cases q
section
variable {X : Cx} {x : Str} {np cpos pos : Pos} {e : Expr} {es : List Expr} {t : TA} {C : Addr} {E : St → XK}
def tRaise (C : Addr) (E : St → XK) (t : TA) : TS := fun _ σ H => t σ H fun vs H1 => vs.length ≤ sizeLine ∧ E σ (.ref C) none H1
theorem ps_raise (hX : XOk X E) (hc : X.calm = true) (hg : Gl X x) (hm : X.mg x = some (.ref C)) (c : ErrC X.K C) (ha : PA X (e :: es) t) (hdb : (x == ("__debug__" : Str)) = false := by decide)
    (he : starEach (e :: es) X.env = (false, eval e X.env) :: starEach es X.env := by rfl) (hpl : (backTo cpos (starEach es X.env)).any (·.1) = false := by rfl) :
    PS X (.Raise (some (.Call (.Name x np) (e :: es) [] cpos)) none pos) (tRaise C E t) := by
  intro pins s σ H D I h
  obtain ⟨bm, N, nm, qn, bs, hdct, sn, sub, ab, col, dd, k0, k1, k2, k3, k5, mN, hC, hN, hni, T⟩ := own_obj I.ok.mod.kin c.ex
  refine wpAny_Raise_call_subT (C := C) (nm := nm) (q := qn) (N := N) (bs := bs) (bm := bm) (hdct := hdct) (sn := sn) (sub := sub) (ab := ab) (col := col) (dd := dd) (k0 := k0) (k1 := k1) (k2 := k2) (k3 := k3) (k5 := k5)
    F.excBase_ValueError (mN := mN) (T.hasType F.excBase_ValueError.hasBase) (I.ok.hd hc) (by rw [he]; show (false || (backTo cpos (starEach es X.env)).any (·.1)) = false; rw [hpl]; rfl) hni (ld_glob I hg hm ⟨rfl, ?_⟩ hdb)
  have hq := thn (ha cpos pins s σ H _ I h) fun us s2 ⟨vs, H2, I2, r2, q2⟩ => show us.length ≤ sizeLine ∧ (∀ b o, X.base.get? b = some o → s2.heap.get? b = some o) ∧ ∀ h' e, Heap.MadeExcOf s2.heap h' e (.ref C) us → X.xe (.ref e) { s2 with heap := h' } from
    ⟨by rw [← r2.length]; exact q2.1, I2.bk, fun h' e hx => hX.raise pins σ H2 s2 h' e (.ref C) us I2 hx q2.2⟩
  rw [he] at hq ⊢
  exact evalArgs_plain (wpAny_mono hq (fun vs s2 h2 => ⟨rfl, h2.1, h2.2.1 _ _ hC, hN.keeps h2.2.1, T.keeps h2.2.1, h2.2.2⟩) fun _ _ y => y)
end

/-! ### f-strings -/
section
variable {X : Cx} {e v1 v2 : Expr} {es : List Expr} {te : TE} {pos : Pos}
/-- a part {e} of a text or a whole number -/
def tFmt (te : TE) : TE := fun σ H Q => te σ H fun x H1 => (∃ y, x = .str y ∧ y.length ≤ sizeLine ∧ Q (.str y) H1) ∨ ∃ i : Int, x = .int i ∧ i.natAbs.log2 < 1920 ∧ Q (.str (toString i)) H1
theorem pe_fmt (h : PE X e te) : PE X (.FormattedValue e (-1) none pos) (tFmt te) := by
  intro pins s σ H Q I hq
  refine FormattedValue_plain (thn (h pins s σ H _ I hq) fun u s1 ⟨x, H1, I1, r1, q1⟩ => ?_)
  rcases q1 with ⟨y, rfl, hy, q⟩ | ⟨i, rfl, hi, q⟩
  · obtain ⟨t, rfl⟩ := r1
    exact formatField_str (fun t' tk => ⟨.str y, H1, I1.tok _, ⟨_, rfl⟩, q⟩) hy
  · obtain ⟨t, rfl⟩ := r1
    exact formatField_int_small hi ⟨.str (toString i), H1, I1.tok _, ⟨_, rfl⟩, q⟩
abbrev TJ := Str → TE
def PJ (X : Cx) (es : List Expr) (t : TJ) : Prop :=
  ∀ (acc : Str) (pins : List (Addr × Obj)) (s : Shared) (σ : St) (H : Hp) (Q : VK), Inv X pins σ H s → t acc σ H Q → wpAny (model X.prog X.w) X.A (joinParts acc (evalEach es X.env)) (EP X pins σ Q) X.xe s
def tJnil : TJ := fun acc _ H Q => acc.length ≤ sizeLine ∧ Q (.str acc) H
def tJcons (te : TE) (t : TJ) : TJ := fun acc σ H Q => te σ H fun x H1 => ∃ y, x = .str y ∧ (acc ++ y).length ≤ sizeLine ∧ t (acc ++ y) σ H1 Q
theorem pj_nil : PJ X [] tJnil := fun acc _ s σ H Q I h => joinParts_nil ⟨.str acc, H, I.tok _, ⟨_, rfl⟩, h.2⟩ h.1
theorem pj_cons {t : TJ} (h1 : PE X e te) (h2 : PJ X es t) : PJ X (e :: es) (tJcons te t) := by
  intro acc pins s σ H Q I h
  refine joinParts_cons (thn (h1 pins s σ H _ I h) fun u s1 ⟨x, H1, I1, r1, y, e, hl, q⟩ => ?_)
  subst e
  obtain ⟨tk, rfl⟩ := r1
  exact ⟨hl, h2 _ pins s1 σ H1 Q I1 q⟩
theorem pe_joined {t : TJ} (h : PJ X (v1 :: v2 :: es) t) : PE X (.JoinedStr (v1 :: v2 :: es) pos) (t Str.empty) := fun pins s σ H Q I hq => JoinedStr_many (h Str.empty pins s σ H Q I hq)
end

/-! ### try .. except C as e -/
/-- within an except suite -/
abbrev Cx.suite (X : Cx) (e : Addr) : Cx := { X with A := X.A.mark (some (.ref e)), calm := false, xe := fun _ _ => False }
section
variable {X : Cx} {pins : List (Addr × Obj)} {σ : St} {H : Hp} {s : Shared} {ea C : Addr} {B : Heap} {a0 : Value}
end

/-! ### the clauses -/
/-- what the clauses do with an exception of class C -/
abbrev TH := Addr → TS
def Ends.drop (D : Ends) (i : Nat) : Ends := { nx := fun σ H => D.nx (σ.set i none) H, rt := D.rt, bk := fun σ H => D.bk (σ.set i none) H, ct := fun σ H => D.ct (σ.set i none) H }
section
variable {X : Cx} {x n : Str} {np pos : Pos} {b0 : Stmt} {suite : List Stmt} {rest : List ExceptHandler} {ts : TS} {tr : TH} {Dc : Addr} {i : Nat}
end
end L2

set_option Elab.async false
set_option linter.all false
set_option maxRecDepth 100000
set_option maxHeartbeats 4000000
namespace L2
open PySem PySem.Spec PyProof.Rows PySem.W PySem.Calls

/-! ### list comprehensions -/
/-- the cells that a block takes over -/
def capsOf (env : Env) : List (Str × NameKind) → List (Str × Addr) → List (Str × Addr)
  | [], acc => acc
  | (n, k) :: r, acc => if k = .free then capsOf env r ((n, (env.cells.lookup n).getD 0) :: acc) else capsOf env r acc
theorem closure_caps {env : Env} {scope : Scope} (h : ∀ x ∈ scope.names, x.2 = .free → ∃ c, env.cells.lookup x.1 = some c) : closureFor scope env = pure (capsOf env scope.names []) := by
  unfold closureFor
  suffices H : ∀ (l : List (Str × NameKind)) (acc : List (Str × Addr)), (∀ x ∈ l, x.2 = .free → ∃ c, env.cells.lookup x.1 = some c) →
      (forIn l acc fun (x : Str × NameKind) (cs : List (Str × Addr)) => if (x.2 == NameKind.free) = true then do let c ← cellOf env x.1; pure (ForInStep.yield ((x.1, c) :: cs)) else pure (ForInStep.yield cs) : Sem (List (Str × Addr))) = pure (capsOf env l acc) by
    have := H scope.names [] h
    simpa using this
  intro l
  induction l with
  | nil => intro acc _; rfl
  | cons x r ih =>
    intro acc hl
    obtain ⟨n, k⟩ := x
    rw [List.forIn_cons]
    by_cases hk : k = .free
    · subst hk
      obtain ⟨c, hc⟩ := hl (n, .free) List.mem_cons_self rfl
      have hc' : env.cells.lookup n = some c := hc
      simp only [beq_self_eq_true, if_true, cellOf, hc', capsOf, Option.getD_some]
      show (pure _ >>= _) = _
      rw [pure_bind]
      exact ih _ fun y hy => hl y (List.mem_cons_of_mem _ hy)
    · have hb : (k == NameKind.free) = false := by simpa using hk
      simp only [hb, Bool.false_eq_true, if_false, capsOf, hk]
      rw [pure_bind]
      exact ih _ fun y hy => hl y (List.mem_cons_of_mem _ hy)
theorem caps_from {env : Env} {x : Str} {c : Addr} : ∀ {l : List (Str × NameKind)} {acc : List (Str × Addr)}, (∀ y ∈ l, y.2 = .free → ∃ c, env.cells.lookup y.1 = some c) →
    (∀ y d, acc.lookup y = some d → env.cells.lookup y = some d) → (capsOf env l acc).lookup x = some c → env.cells.lookup x = some c
  | [], acc, _, ha, h => ha x c h
  | (n, k) :: r, acc, hl, ha, h => by
    unfold capsOf at h
    have hr : ∀ y ∈ r, y.2 = .free → ∃ c, env.cells.lookup y.1 = some c := fun y hy => hl y (List.mem_cons_of_mem _ hy)
    split at h
    · rename_i hk
      obtain ⟨d, hd⟩ := hl (n, k) List.mem_cons_self hk
      refine caps_from hr (fun y e he => ?_) h
      rw [List.lookup_cons] at he
      split at he
      · rename_i q
        have q' : y = n := by simpa using q
        subst q'
        have hd' : env.cells.lookup y = some d := hd
        rw [hd', Option.getD_some] at he
        cases he
        exact hd'
      · exact ha y e he
    · exact caps_from hr ha h
theorem caps_has {env : Env} {x : Str} : ∀ {l : List (Str × NameKind)} {acc : List (Str × Addr)}, ((x, NameKind.free) ∈ l ∨ ∃ c, acc.lookup x = some c) → ∃ c, (capsOf env l acc).lookup x = some c
  | [], acc, h => by
    rcases h with h | h
    · simp at h
    · exact h
  | (n, k) :: r, acc, h => by
    unfold capsOf
    split
    · rename_i hk
      refine caps_has ?_
      rcases h with h | ⟨c, h⟩
      · rcases List.mem_cons.mp h with e | e
        · injection e with e1 e2
          subst e1
          exact .inr ⟨(env.cells.lookup x).getD 0, by simp [List.lookup_cons]⟩
        · exact .inl e
      · by_cases q : x = n
        · subst q
          exact .inr ⟨(env.cells.lookup x).getD 0, by simp [List.lookup_cons]⟩
        · refine .inr ⟨c, ?_⟩
          rw [List.lookup_cons]
          have : (x == n) = false := by simpa using q
          rw [this]
          exact h
    · rename_i hk
      refine caps_has ?_
      rcases h with h | h
      · rcases List.mem_cons.mp h with e | e
        · injection e with e1 e2
          exact absurd e2.symm hk
        · exact .inl e
      · exact .inr h
theorem relabel_free {env : Env} {x : Str} : ∀ {names : List (Str × NameKind)}, names.lookup x = some .free →
    (names.map fun (n, k) => if (k == NameKind.free && env.scope.kind == .function && env.kindOf n == some .cell) then (n, NameKind.cell) else (n, k)).lookup x = some .cell ∨
    (names.map fun (n, k) => if (k == NameKind.free && env.scope.kind == .function && env.kindOf n == some .cell) then (n, NameKind.cell) else (n, k)).lookup x = some .free
  | [], h => by simp at h
  | (n, k) :: r, h => by
    have ih := @relabel_free env x r
    show List.lookup x ((if (k == NameKind.free && env.scope.kind == .function && env.kindOf n == some .cell) = true then (n, NameKind.cell) else (n, k)) :: _) = _ ∨ List.lookup x ((if (k == NameKind.free && env.scope.kind == .function && env.kindOf n == some .cell) = true then (n, NameKind.cell) else (n, k)) :: _) = _
    rw [List.lookup_cons] at h
    by_cases hc : (k == NameKind.free && env.scope.kind == .function && env.kindOf n == some .cell) = true
    · rw [if_pos hc, List.lookup_cons]
      cases hx : x == n with
      | true => exact .inl rfl
      | false => rw [hx] at h; exact ih h
    · rw [if_neg hc, List.lookup_cons]
      cases hx : x == n with
      | true => rw [hx] at h; exact .inr h
      | false => rw [hx] at h; exact ih h
theorem relabel_only {env : Env} {x : Str} : ∀ {names : List (Str × NameKind)}, (∀ y ∈ names, y.2 ≠ .cell) →
    ((names.map fun (n, k) => if (k == NameKind.free && env.scope.kind == .function && env.kindOf n == some .cell) then (n, NameKind.cell) else (n, k)).lookup x = some .cell ∨
    (names.map fun (n, k) => if (k == NameKind.free && env.scope.kind == .function && env.kindOf n == some .cell) then (n, NameKind.cell) else (n, k)).lookup x = some .free) → (x, NameKind.free) ∈ names
  | [], _, h => by simp at h
  | (n, k) :: r, hc, h => by
    have ih := @relabel_only env x r fun y hy => hc y (List.mem_cons_of_mem _ hy)
    have h2 : List.lookup x ((if (k == NameKind.free && env.scope.kind == .function && env.kindOf n == some .cell) = true then (n, NameKind.cell) else (n, k)) :: _) = _ ∨ List.lookup x ((if (k == NameKind.free && env.scope.kind == .function && env.kindOf n == some .cell) = true then (n, NameKind.cell) else (n, k)) :: _) = _ := h
    clear h
    by_cases hq : (k == NameKind.free && env.scope.kind == .function && env.kindOf n == some .cell) = true
    · rw [if_pos hq, List.lookup_cons] at h2
      cases hx : x == n with
      | true =>
        have e : x = n := by simpa using hx
        subst e
        have hk : k = .free := by
          rw [Bool.and_eq_true, Bool.and_eq_true] at hq
          simpa using hq.1.1
        subst hk
        exact List.mem_cons_self
      | false => rw [hx] at h2; exact List.mem_cons_of_mem _ (ih h2)
    · rw [if_neg hq, List.lookup_cons] at h2
      cases hx : x == n with
      | true =>
        rw [hx] at h2
        have e : x = n := by simpa using hx
        subst e
        rcases h2 with h | h
        · have h' : some k = some NameKind.cell := h
          exact absurd (Option.some.inj h') (hc (x, k) List.mem_cons_self)
        · have h' : some k = some NameKind.free := h
          rw [Option.some.inj h']
          exact List.mem_cons_self
      | false => rw [hx] at h2; exact List.mem_cons_of_mem _ (ih h2)

/-- within a comprehension's block -/
def compX (X : Cx) (scope : Scope) (N : List Str) (s₀ : Shared) (H₀ : Hp) (C : Addr) (fp : List Addr) (pn : List (Addr × Obj)) : Cx :=
  { X with N := N, s₀ := s₀, H₀ := H₀, env := compEnvC scope (capsOf X.env scope.names []) C X.env, outer := X.stack, ex := fp, fn := fun _ => false, pn := pn, xe := fun _ _ => False }
/-- what a block's scope must be: its own names ls, the names that it takes over cs, at the places js of the def -/
structure CompScope (N : List Str) (sc : Scope) (scope : Scope) (ls : List Str) (js : List Nat) (cs : List Str) : Prop where
  kind : scope.kind = .function
  ncell : ∀ x ∈ scope.names, x.2 ≠ .cell
  names : ∀ x ∈ scope.names, x.2 = .local → scope.names.lookup x.1 = some .local
  loc : ∀ x ∈ ls, scope.names.lookup x = some .local
  at_ : cs = js.filterMap (N[·]?)
  len : cs.length = js.length
  cap : ∀ x ∈ cs, scope.names.lookup x = some .free ∧ (sc.names.lookup x = some .cell ∨ sc.names.lookup x = some .free)
  free : ∀ x ∈ scope.names, x.2 = .free → (sc.names.lookup x.1 = some .cell ∨ sc.names.lookup x.1 = some .free)
  nd : (ls ++ cs).Nodup

section
variable {X : Cx} {pins : List (Addr × Obj)} {σ : St} {H : Hp} {s : Shared} {scope : Scope} {ls cs : List Str} {js : List Nat} {fp : List Addr}
theorem CompScope.has (S : CompScope X.N X.env.scope scope ls js cs) (ok : X.Ok) : ∀ x ∈ scope.names, x.2 = .free → ∃ c, X.env.cells.lookup x.1 = some c := fun x hx hf => ok.has x.1 (S.free x hx hf)
/-- the names' values at the block's entry -/
def capσ (ls : List Str) (js : List Nat) (σ : St) : St := ls.map (fun _ => none) ++ js.map fun j => (σ[j]?).join
theorem comp_ok (S : CompScope X.N X.env.scope scope ls js cs) (I : Inv X pins σ H s) (hf : ∀ b ∈ fp, FpOk X pins H b) (hl : ∀ b ∈ fp, b < s.heap.objs.size) : (compX X scope (ls ++ cs) s H s.heap.objs.size fp (X.pn ++ pins)).Ok := by
  have fromX : ∀ {x : Str} {c : Addr}, (capsOf X.env scope.names []).lookup x = some c → X.env.cells.lookup x = some c := fun {x c} h => caps_from (S.has I.ok) (fun y d h => by simp at h) h
  refine ⟨I.ok.mod, S.kind, I.ok.glob, I.ok.blt, Nat.le_refl _, fun x y c h1 h2 => I.ok.inj x y c (fromX h1) (fromX h2), fun x h => caps_has (.inl (relabel_only S.ncell h)), (fun x c h => Bool.noConfusion (show false = true from h)), I.ok.hd, I.ok.frames, .inl rfl, fun b hb => ⟨Nat.ne_of_lt (hl b hb), fun x c h => (hf b hb).2.2.2.2.1 x c (fromX h)⟩,
    I.bs, Nat.le_trans I.ok.bsz I.sz, fun b o e hb => ?_, fun b hb hm => ?_, I.stack, I.stkFree⟩
  · rcases (hf b hb).2.2.2.1 with z | z
    · exact I.ok.noex b o e z
    · exact absurd (Nat.lt_of_lt_of_le (Heap.lt_size e) I.ok.bsz) (Nat.not_lt.mpr z)
  · rcases List.mem_cons.mp (I.stkSub b hm) with z | z
    · exact (hf b hb).2.1 z
    · exact (hf b hb).2.2.1 z
theorem comp_inv {h1 : Heap} {m : Str → Option Value} (S : CompScope X.N X.env.scope scope ls js cs) (I : Inv X pins σ H s) (hf : ∀ b ∈ fp, FpOk X pins H b) (hl : ∀ b ∈ fp, b < s.heap.objs.size)
    (hn : h1.Ns s.heap.objs.size m) (hk : ∀ b o, s.heap.get? b = some o → h1.get? b = some o) :
    Inv (compX X scope (ls ++ cs) s H s.heap.objs.size fp (X.pn ++ pins)) [] (capσ ls js σ) H { s with heap := h1 } := by
  have fromX : ∀ {x : Str} {c : Addr}, (capsOf X.env scope.names []).lookup x = some c → X.env.cells.lookup x = some c := fun {x c} h => caps_from (S.has I.ok) (fun y d h => by simp at h) h
  have len : (capσ ls js σ).length = (ls ++ cs).length := by
    unfold capσ
    rw [List.length_append, List.length_append, List.length_map, List.length_map, S.len]
  refine ⟨comp_ok S I hf hl, rfl, I.bare, Un.kept hk, ⟨m, hn, fun i x v e1 e2 e3 => ?_⟩, fun x c e => ?_, I.hok.fresh (Nat.le_refl _), fun x c e => I.freeC x c (fromX e), fun p hp => ?_, I.hok.kept hk, len⟩
  · have e1 : (ls ++ cs)[i]? = some x := e1
    unfold capσ at e2
    by_cases hi : i < ls.length
    · rw [List.getElem?_append_left (by simpa using hi), List.getElem?_map] at e2
      cases q : ls[i]? with
      | none => rw [q] at e2; cases e2
      | some y => rw [q] at e2; cases e2
    · have hi' : ls.length ≤ i := Nat.not_lt.mp hi
      rw [List.getElem?_append_right (by simpa using hi'), List.getElem?_map, List.length_map] at e2
      rw [List.getElem?_append_right hi'] at e1
      obtain ⟨hc1, hc2⟩ := S.cap x (List.mem_of_getElem? e1)
      cases q : js[i - ls.length]? with
      | none => rw [q] at e2; cases e2
      | some j =>
        rw [q] at e2
        have e2 : (σ[j]?).join = some v := Option.some.inj e2
        have eN : X.N[j]? = some x := by
          have aux : ∀ (js : List Nat) (cs : List Str) (i : Nat), cs = js.filterMap (X.N[·]?) → cs.length = js.length → ∀ j x, js[i]? = some j → cs[i]? = some x → X.N[j]? = some x := by
            intro js
            induction js with
            | nil => intro cs i _ _ j x hj _; simp at hj
            | cons a r ih =>
              intro cs i he hl j x hj hx
              rw [List.filterMap_cons] at he
              cases qa : X.N[a]? with
              | none =>
                rw [qa] at he
                have hle := List.length_filterMap_le (X.N[·]?) r
                simp only at he
                rw [he, List.length_cons] at hl
                omega
              | some y =>
                rw [qa] at he
                simp only at he
                subst he
                cases i with
                | zero =>
                  simp at hj hx
                  subst hj hx
                  exact qa
                | succ i => exact ih _ i rfl (by simpa using hl) j x (by simpa using hj) (by simpa using hx)
          exact aux js cs _ S.at_ S.len j x q e1
        obtain ⟨mX, _, hlX⟩ := I.loc
        have e2' : σ[j]? = some (some v) := by
          cases z : σ[j]? with
          | none => rw [z] at e2; cases e2
          | some w => rw [z] at e2; rw [show w = some v from e2]
        obtain ⟨u, r, l⟩ := hlX j x v eN e2' (hc2.elim (fun z => .inr (.inl z)) fun z => .inr (.inr z))
        refine ⟨u, r, ?_⟩
        rcases l with ⟨z, _⟩ | ⟨_, c, z1, o, z2, z3⟩
        · have z : X.env.scope.names.lookup x = some .local := z
          rcases hc2 with w | w <;> (rw [z] at w; cases w)
        · refine .inr ⟨relabel_free hc1, c, ?_, o, hk c o z2, z3⟩
          obtain ⟨c', hc'⟩ := caps_has (env := X.env) (l := scope.names) (acc := []) (x := x) (.inl (PySem.mem_of_lookup hc1))
          have := fromX hc'
          rw [z1] at this
          cases this
          exact hc'
  · obtain ⟨v, o, z1, z2⟩ := I.cell x c (fromX e)
    exact ⟨v, o, hk c o z1, z2⟩
  · have hp : p ∈ X.pn ++ pins := by simpa [compX] using hp
    obtain ⟨e, n, ne, nf, d⟩ := I.pin p hp
    refine ⟨hk _ _ e, n, Nat.ne_of_lt (Heap.lt_size e), fun hm => ?_, d⟩
    rcases List.mem_cons.mp (I.stkSub p.1 hm) with z | z
    · exact ne z
    · exact nf z
end

section
variable {prog : Program} {w : World} {A : Around} {R : Result → Shared → Prop} {s : Shared}
theorem compLoop_any {elt target iter : Expr} {ifs : List Expr} {scope : Scope} {pos : Pos} {it acc : Value} {env : Env} (L : Nat → Shared → Prop)
    (turn : ∀ n s, L n s → wpAny (model prog w) A (pyNext it) (fun r s₁ => match r with
      | none => R (.ok .next) s₁
      | some v => wpAny (model prog w) A (letOwnedTupleGo target it v) (fun _ s₁' => wpAny (model prog w) A (assign target env v) (fun _ s₂ =>
          wpAny (model prog w) A (forIn ifs true fun c r => if r = true then do let ok ← isTrue c env (eval c env); pure (ForInStep.yield ok) else pure (ForInStep.yield r)) (fun ok s₃ =>
            if ok = true then wpAny (model prog w) A (eval elt env) (fun x s₄ =>
              wpAny (model prog w) A (call (.builtin "list.append") [acc, x]) (fun _ s₅ => ∃ m, m < n ∧ L m s₅) (fun _ _ => False) s₄) (fun _ _ => False) s₃
            else ∃ m, m < n ∧ L m s₃) (fun _ _ => False) s₂) (fun _ _ => False) s₁') (fun _ _ => False) s₁) (fun _ _ => False) s)
    (n : Nat) (h : L n s) : codeAny (model prog w) A (.compLoop (.ListComp elt [⟨target, iter, ifs, 0⟩] scope pos) 0 it acc env) R s := by
  refine codeAny_loop rfl L (fun n s hI => ?_) n h
  show wpAny _ A ((compTurn (.ListComp elt [⟨target, iter, ifs, 0⟩] scope pos) 0 it acc env).onRaise (fun x => do noteFrame x env; theTreesLotGoes x)) _ _ s
  refine wpAny_noted ?_
  rw [compTurn_list]
  refine wpAny_mono (E := fun _ _ => False) ?_ (fun _ _ q => q) fun _ _ z => False.elim z
  refine wpAny_bind (wpAny_standAt (wpAny_bind (wpAny_mono (turn n s hI) (fun r s₁ h₁ => ?_) fun _ _ h' => h')))
  cases r with
  | none => exact wpAny_pure h₁
  | some v =>
    refine wpAny_bind (wpAny_mono h₁ (fun _ s₁' h₁ => ?_) fun _ _ h' => h')
    refine wpAny_bind (wpAny_mono h₁ (fun _ s₂ h₂ => wpAny_bind (wpAny_mono h₂ (fun ok s₃ h₃ => ?_) fun _ _ h' => h')) fun _ _ h' => h')
    cases ok with
    | false => exact wpAny_pure ⟨rfl, h₃⟩
    | true =>
      exact wpAny_bind (wpAny_bind (wpAny_mono h₃ (fun x s₄ h₄ => wpAny_bind (wpAny_mono h₄ (fun _ s₅ h₅ => wpAny_pure (wpAny_pure ⟨rfl, h₅⟩)) fun _ _ h' => h')) fun _ _ h' => h'))
end

/-- the block's tests (none or one) -/
def PTs (X : Cx) (ifs : List Expr) (t : TT) : Prop :=
  ∀ (pins : List (Addr × Obj)) (s : Shared) (σ : St) (H : Hp) (Q : Bool → Hp → Prop), Inv X pins σ H s → t σ H Q →
    wpAny (model X.prog X.w) X.A (forIn ifs true fun c r => if r = true then do let ok ← isTrue c X.env (eval c X.env); pure (ForInStep.yield ok) else pure (ForInStep.yield r)) (TP X pins σ Q) X.xe s
def tYes : TT := fun _ H Q => Q true H
theorem pts_nil {X : Cx} : PTs X [] tYes := fun _ _ _ H _ I h => wpAny_tests_nil ⟨H, I, h⟩
theorem pts_one {X : Cx} {c : Expr} {t : TT} (h : PT X c t) : PTs X [c] t := fun pins s σ H Q I hq => wpAny_tests_one (h pins s σ H Q I hq)
/-- the block's turns, by an invariant W -/
def CompW (J : It) (ls : List Str) (js : List Nat) (g : TG) (tt : TT) (te : TE) (σ : St) (H1 : Hp) (D : Addr) (Q : VK) : Prop :=
  ∃ W : Nat → Nat → List V → St → Hp → Prop, (∃ m, W 0 m [] (capσ ls js σ) (upd H1 D (.lst []))) ∧ ∀ i m ys σ' H', W i m ys σ' H' →
  (J.stop i H' ∧ Q (.ref D) H') ∨ (J.go i H' ∧ ∃ N : List V → St → Hp → Prop, (∀ ys' σ2 H2, N ys' σ2 H2 → ∃ m', m' < m ∧ W (i + 1) m' ys' σ2 H2) ∧ ∀ x H2, J.yld i H' x H2 → g x σ' H2 fun σ2 H3 => tt σ2 H3 fun b H4 =>
    if b = true then te σ2 H4 fun y H5 => H5 D = some (.lst ys) ∧ ys.length < sizeLine ∧ N (ys ++ [y]) σ2 (upd H5 D (.lst (ys ++ [y]))) else N ys σ2 H4)
def tComp (wi : TI) (ls : List Str) (js : List Nat) (g : TG) (tt : TT) (te : TE) : TE := fun σ H Q => wi σ H fun J H1 => ∀ D, H1 D = none → CompW J ls js g tt te σ H1 D Q
section
variable {X : Cx} {tg iter elt : Expr} {ifs : List Expr} {scope : Scope} {pos : Pos} {wi : TI} {g : TG} {tt : TT} {te : TE} {ls cs : List Str} {js : List Nat}
theorem comp_core {pins : List (Addr × Obj)} {s : Shared} {σ : St} {H : Hp} {Q : VK} {use : Option (Value → Sem Unit)} {QQ : Value → Shared → Prop} (hc : X.calm = true) (S : CompScope X.N X.env.scope scope ls js cs) (hi : PI X tg iter wi)
    (hg : ∀ s₀ H₀ C fp pn, PG (compX X scope (ls ++ cs) s₀ H₀ C fp pn) tg g) (ht : ∀ s₀ H₀ C fp pn, PTs (compX X scope (ls ++ cs) s₀ H₀ C fp pn) ifs tt) (he : ∀ s₀ H₀ C fp pn, PE (compX X scope (ls ++ cs) s₀ H₀ C fp pn) elt te)
    (I : Inv X pins σ H s) (h : tComp wi ls js g tt te σ H Q)
    (hend : ∀ (D C : Addr) (H' : Hp) (s' : Shared) (m : Str → Option Value), Inv X pins σ H' s' → Q (.ref D) H' → s'.heap.Ns C m → FpOk X pins H' C → compPost (model X.prog X.w) X.A X.xe use QQ (.ref D) C (.ok .next) s')
    (hs : ∀ x, foldedSetIterable iter X.env x = pure x := by intro _; rfl) :
    wpAny (model X.prog X.w) X.A (comprehension (.ListComp elt [⟨tg, iter, ifs, 0⟩] scope pos) scope X.env (firstIterPos [⟨tg, iter, ifs, 0⟩] pos) (newList []) false (eval iter X.env) use) QQ X.xe s := by
  refine wpAny_comprehension_free rfl hs (closure_caps (S.has I.ok)) S.kind S.names (thn (hi pins s σ H _ I h) fun v s1 h1 => thn h1 fun itv s2 h2 => ?_)
  obtain ⟨it, fp, tn, J, H2, rfl, I2, T, st2, f2, hW⟩ := h2
  have fl2 : ∀ b ∈ fp, b < s2.heap.objs.size := fun b hb => by
    obtain ⟨o, e, _⟩ := T.obj 0 _ st2 b hb
    exact Heap.lt_size e
  refine wpAny_newObj_type ?_
  have hD : H2 s2.heap.objs.size = none := I2.hok.fresh (Nat.le_refl _)
  obtain ⟨W, ⟨m0, w0⟩, turn⟩ := hW _ hD
  have I3 : Inv X pins σ (upd H2 s2.heap.objs.size (.lst [])) { s2 with heap := s2.heap.push { cls := .type "list", dict := none, data := .seq ([] : List Value).toArray } } :=
    I2.laid (t' := s2.toks) (fun b u e => Heap.get?_push_of_some _ e) (Nat.le_refl _) ⟨Nat.zero_le _, [], 0, .nil, Heap.get?_push_size _ rfl⟩
  have f3 : ∀ b ∈ fp, FpOk X pins (upd H2 s2.heap.objs.size (.lst [])) b := fun b hb => ⟨by rw [upd_ne (Nat.ne_of_lt (fl2 b hb))]; exact (f2 b hb).1, (f2 b hb).2⟩
  generalize hH3 : upd H2 s2.heap.objs.size (.lst []) = H3 at I3 f3 w0
  generalize hs3 : ({ s2 with heap := s2.heap.push { cls := .type "list", dict := none, data := .seq ([] : List Value).toArray } } : Shared) = s3 at I3
  have fl3 : ∀ b ∈ fp, b < s3.heap.objs.size := fun b hb => by
    rw [← hs3]
    show b < (s2.heap.push _).objs.size
    rw [Heap.size_push]
    exact Nat.lt_succ_of_lt (fl2 b hb)
  have st3 : tn 0 s3.heap := T.keep 0 _ _ st2 fun b hb o e => by rw [← hs3]; exact Heap.get?_push_of_some _ e
  refine wpAny_newFunctionEnv S.ncell (by intro y hy; simp at hy) (fun h4 hns hsb => ?_) S.kind
  have k4 : ∀ b o, s3.heap.get? b = some o → h4.get? b = some o := fun b o e => hsb.extBut b o (Nat.ne_of_lt (Heap.lt_size e)) (Heap.get?_push_of_some _ e)
  have I4 := comp_inv (h1 := h4) S I3 f3 fl3 hns k4
  have I4' := I4.tok (s3.toks + ([] : List (Str × Value)).length)
  have st4 : tn 0 h4 := T.keep 0 _ _ st3 fun b hb o e => k4 b o e
  show codeAny (model X.prog X.w) X.A (.compStart (.ListComp elt [⟨tg, iter, ifs, 0⟩] scope pos) 0 (.ref it) (.ref s2.heap.objs.size) (compEnvC scope (capsOf X.env scope.names []) s3.heap.objs.size X.env)) (compPost (model X.prog X.w) X.A X.xe use QQ (.ref s2.heap.objs.size) s3.heap.objs.size) _
  have stat : ∀ {H' : Hp}, (∀ b ∈ fp, H' b = none) → ∀ b ∈ fp, FpOk (compX X scope (ls ++ cs) s3 H3 s3.heap.objs.size fp (X.pn ++ pins)) [] H' b := fun {H'} hn b hb => by
    obtain ⟨q1, q2, q3, q4, q5, q6⟩ := f3 b hb
    refine ⟨hn b hb, Nat.ne_of_lt (fl3 b hb), fun hm => ?_, .inl hb, fun x c e => q5 x c (caps_from (S.has I.ok) (fun y d z => by simp at z) e), fun p hp => q6 p (by simpa [compX] using hp)⟩
    rcases List.mem_cons.mp (I3.stkSub b hm) with z | z
    · exact q2 z
    · exact q3 z
  have loop : codeAny (model X.prog X.w) X.A (.compLoop (.ListComp elt [⟨tg, iter, ifs, 0⟩] scope pos) 0 (.ref it) (.ref s2.heap.objs.size) (compEnvC scope (capsOf X.env scope.names []) s3.heap.objs.size X.env)) (compPost (model X.prog X.w) X.A X.xe use QQ (.ref s2.heap.objs.size) s3.heap.objs.size)
      { s3 with heap := h4, toks := s3.toks + ([] : List (Str × Value)).length } := by
    refine compLoop_any (fun n s' => ∃ i σ' H', Inv (compX X scope (ls ++ cs) s3 H3 s3.heap.objs.size fp (X.pn ++ pins)) [] σ' H' s' ∧ tn i s'.heap ∧ (∀ b ∈ fp, H' b = none) ∧ ∃ ys, W i n ys σ' H') ?_ m0 ⟨0, _, _, I4', st4, fun b hb => (f3 b hb).1, [], w0⟩
    rintro n s5 ⟨i, σ5, H5, I5, st5, fr5, ys, w5⟩
    rcases turn i n ys σ5 H5 w5 with ⟨stop, qn⟩ | ⟨go, N, hN, step⟩
    · refine thn (T.done (compX X scope (ls ++ cs) s3 H3 s3.heap.objs.size fp (X.pn ++ pins)) rfl rfl rfl hc i [] s5 σ5 H5 (fun _ _ => False) I5 (stat fr5) st5 stop) fun r s6 ⟨hr, I6⟩ => ?_
      subst hr
      obtain ⟨m, hm, _⟩ := id I6.loc
      have un : Un (frs X.stack) fp H3 H5 s3.heap s6.heap := I6.base
      have I7 : Inv X pins σ H5 s6 := I3.call' (ch := fp) I6.os un I6.hok I6.bare fun b hb => by
        obtain ⟨q1, q2, q3, q4, q5, q6⟩ := f3 b hb
        exact ⟨q4, q2, q5, q6⟩
      have fc : FpOk X pins H5 s3.heap.objs.size := I3.fpOk (Nat.le_refl _) I6.free
      exact hend _ _ H5 s6 m I7 qn hm fc
    · refine thn (T.item (compX X scope (ls ++ cs) s3 H3 s3.heap.objs.size fp (X.pn ++ pins)) rfl rfl rfl hc i [] s5 σ5 H5 (fun _ _ => False) I5 (stat fr5) st5 go) fun r s6 ⟨u, hr, h6⟩ => ?_
      subst hr
      refine thn h6 fun _ s7 ⟨x, H7, I7, r7, y7, st7, fr7⟩ => ?_
      have I7' := I7.pinned (stat fr7) (T.obj _ _ st7)
      refine thn (hg _ _ _ _ _ _ s7 σ5 H7 x u _ I7' r7 (step x H7 y7)) fun _ s8 ⟨σ8, H8, I8, q8⟩ => ?_
      refine thn (ht _ _ _ _ _ _ s8 σ8 H8 _ I8 q8) fun b s9 ⟨H9, I9, q9⟩ => ?_
      have again : ∀ {ys' : List V} {σ' : St} {H' : Hp} {s' : Shared}, Inv (compX X scope (ls ++ cs) s3 H3 s3.heap.objs.size fp (X.pn ++ pins)) ([] ++ pinsAt fp s7.heap) σ' H' s' → N ys' σ' H' →
          ∃ m, m < n ∧ ∃ i σ' H', Inv (compX X scope (ls ++ cs) s3 H3 s3.heap.objs.size fp (X.pn ++ pins)) [] σ' H' s' ∧ tn i s'.heap ∧ (∀ b ∈ fp, H' b = none) ∧ ∃ ys, W i m ys σ' H' := fun {ys' σ' H' s'} I' n' => by
        obtain ⟨m', hm', w'⟩ := hN ys' σ' H' n'
        refine ⟨m', hm', i + 1, σ', H', I'.unpinned, T.keep _ _ _ st7 fun b hb o e => (I'.pin (b, o) (List.mem_append_right _ (List.mem_append_right _ (mem_pinsAt hb e)))).1, fun b hb => ?_, ys', w'⟩
        obtain ⟨o, e, d⟩ := T.obj _ _ st7 b hb
        exact (I'.pin (b, o) (List.mem_append_right _ (List.mem_append_right _ (mem_pinsAt hb e)))).2.1
      cases b with
      | false => exact again I9 q9
      | true =>
        refine thn (he _ _ _ _ _ _ s9 σ8 H9 _ I9 q9) fun u2 s10 ⟨y, H10, I10, r10, hys, hz, q10⟩ => ?_
        refine thn (mt_append _ s10 σ8 H10 (.ref s2.heap.objs.size) [y] (.ref s2.heap.objs.size) [u2] (fun _ H' => N (ys ++ [y]) σ8 H') I10 rfl (.cons r10 .nil) ⟨_, ys, y, rfl, rfl, hys, hz, q10⟩) fun _ s11 ⟨_, H11, I11, _, q11⟩ => ?_
        exact again I11 q11
  exact codeAny_compStart_list loop (T.self _ 0 _ _ _ st4 loop)
/-- [elt for tg in iter if ..] as a value -/
theorem pe_comp (hc : X.calm = true) (S : CompScope X.N X.env.scope scope ls js cs) (hi : PI X tg iter wi)
    (hg : ∀ s₀ H₀ C fp pn, PG (compX X scope (ls ++ cs) s₀ H₀ C fp pn) tg g) (ht : ∀ s₀ H₀ C fp pn, PTs (compX X scope (ls ++ cs) s₀ H₀ C fp pn) ifs tt) (he : ∀ s₀ H₀ C fp pn, PE (compX X scope (ls ++ cs) s₀ H₀ C fp pn) elt te)
    (hs : ∀ x, foldedSetIterable iter X.env x = pure x := by intro _; rfl) : PE X (.ListComp elt [⟨tg, iter, ifs, 0⟩] scope pos) (tComp wi ls js g tt te) := by
  intro pins s σ H Q I h
  rw [eval_ListComp]
  refine comp_core (use := none) hc S hi hg ht he I h (fun D C H' s' m I' q hm fc => ⟨m, hm, fun h' hsb => ?_⟩) hs
  obtain ⟨q1, q2, q3, q4, q5, q6⟩ := fc
  exact ⟨.ref D, H', I'.turned (t' := s'.toks) (fun b o hb e => hsb.extBut b o hb e) q1 (Ne.symm (Ne.symm q2)) q4 q5 q6, rfl, q⟩
/-- x = [elt for tg in iter if ..], the store within the block's end -/
theorem ps_comp {x : Str} {i : Nat} {pos' spos : Pos} (hc : X.calm = true) (hN : X.N.Nodup) (hi' : X.N[i]? = some x) (hx : X.env.scope.names.lookup x = some .local) (S : CompScope X.N X.env.scope scope ls js cs) (hi : PI X tg iter wi)
    (hg : ∀ s₀ H₀ C fp pn, PG (compX X scope (ls ++ cs) s₀ H₀ C fp pn) tg g) (ht : ∀ s₀ H₀ C fp pn, PTs (compX X scope (ls ++ cs) s₀ H₀ C fp pn) ifs tt) (he : ∀ s₀ H₀ C fp pn, PE (compX X scope (ls ++ cs) s₀ H₀ C fp pn) elt te)
    (hsw : swapsWith (.ListComp elt [⟨tg, iter, ifs, 0⟩] scope pos) (some (.Name x pos')) spos.line X.env = pure true := by rfl)
    (hs : ∀ x, foldedSetIterable iter X.env x = pure x := by intro _; rfl) : PS X (.Assign [.Name x pos'] (.ListComp elt [⟨tg, iter, ifs, 0⟩] scope pos) spos) (tAsg (tComp wi ls js g tt te) (gName i)) := by
  intro pins s σ H D I h
  rw [exec_Assign_Name_used _ _ _ _ hsw]
  refine wpAny_bind (wpAny_standAt (wpAny_bind ?_))
  show wpAny _ X.A (do let _ ← comprehension (.ListComp elt [⟨tg, iter, ifs, 0⟩] scope pos) scope X.env (firstIterPos [⟨tg, iter, ifs, 0⟩] pos) (newList []) false (eval iter X.env) (some (assign (.Name x pos') X.env))) _ _ s
  refine wpAny_bind (wpAny_mono (comp_core (use := some (assign (.Name x pos') X.env)) (QQ := fun _ s' => SP X pins D .next s') hc S hi hg ht he I h (fun Dl C H' s' m I' q hm fc => ?_) hs) (fun _ s' hq => wpAny_pure (wpAny_pure hq)) fun _ _ e => e)
  show wpAny _ X.A (assign (.Name x pos') X.env (.ref Dl)) _ _ _
  obtain ⟨q1, q2, q3, q4, q5, q6⟩ := fc
  refine wpAny_assign_Name (store_ok2 (v := .ref Dl) I' hN hi' (.inl hx) rfl (fun s2 I2 ⟨a, hsb, ha⟩ => ?_) (.inr hx))
  have hne : C ≠ a := by
    rcases ha with rfl | ha
    · exact q2
    · exact fun z => q5 x a ha z.symm
  refine ⟨m, hm.sameBut hsb hne, fun h' hsb2 => ?_⟩
  exact ⟨_, H', I2.turned (t' := s2.toks) (fun b o hb e => hsb2.extBut b o hb e) q1 q2 q4 q5 q6, q⟩
end
end L2

set_option Elab.async false
set_option linter.all false
set_option maxRecDepth 100000
set_option maxHeartbeats 4000000
namespace L2
open PySem PySem.Spec PyProof.Rows PySem.W PySem.Calls

/-! ### texts: the signs one by one -/
def Its (z : Str) : It := ⟨fun i _ => i < z.length, fun i H x H' => H' = H ∧ ∃ c, z.cps.toList[i]? = some c ∧ x = .str ⟨#[c]⟩, fun i _ => z.length ≤ i⟩
theorem turn_str {P : Program} {w : World} {K : Frag} {tg : Expr} {it : Addr} {z : Str} {ty : String} {t : Tok} (hty : ty = "str_ascii_iterator" ∨ ty = "str_iterator") : Turn P w K tg (Its z) [it] it (fun i h => h.IsStrIter it ty z t i) where
  mem := by simp
  obj := fun i h st b hb => by
    have e : b = it := by simpa using hb
    subst e
    obtain ⟨o, e, c, d⟩ := st
    exact ⟨o, e, fun v z => by rw [d] at z; cases z⟩
  keep := fun i h h' st k => let ⟨o, ho, r⟩ := st; ⟨o, k it (by simp) o ho, r⟩
  item := by
    intro X hP hw hK hc i pins s σ H E I hf st hg
    subst hP hw hK
    obtain ⟨f0, f1, f2, f3, f4, f5⟩ := hf it (by simp)
    have hg : i < z.cps.size := hg
    have key : ∀ h', h'.IsStrIter it ty z t (i + 1) → Heap.SameBut it s.heap h' → ∃ u, some (Value.str ⟨#[z.cps[i]]⟩ s.toks) = some u ∧
        wpAny (model X.prog X.w) X.A (letOwnedTupleGo tg (.ref it) u) (fun _ s2 => ∃ x H', Inv X pins σ H' s2 ∧ RelV x u ∧ (Its z).yld i H x H' ∧ s2.heap.IsStrIter it ty z t (i + 1) ∧ ∀ b ∈ [it], H' b = none) E { s with heap := h', toks := s.toks + 1 } := fun h' st' sb => by
      have I1 : Inv X pins σ H { s with heap := h', toks := s.toks + 1 } := I.turned (fun b o hb e => (sb.2 b hb).trans e) f0 f1 f3 f4 f5
      obtain ⟨o, e, c, d⟩ := id st'
      refine ⟨_, rfl, go_of (s := { s with heap := h', toks := s.toks + 1 }) e c d (by rcases hty with rfl | rfl <;> decide) ⟨.str ⟨#[z.cps[i]]⟩, H, I1, ⟨_, rfl⟩, ⟨rfl, z.cps[i], by simp [hg], rfl⟩, st', fun b hb => (hf b hb).1⟩⟩
    rcases hty with rfl | rfl
    · exact wpAny_pyNext_ascii_item st (c := z.cps[i]) (by simp [hg]) key
    · exact wpAny_pyNext_wide_item st (c := z.cps[i]) (by simp [hg]) key
  done := by
    intro X hP hw hK hc i pins s σ H E I hf st hg
    subst hP hw hK
    obtain ⟨f0, f1, f2, f3, f4, f5⟩ := hf it (by simp)
    have hg : z.cps.size ≤ i := hg
    rcases hty with rfl | rfl
    · exact wpAny_pyNext_ascii_end (I.ok.hd hc) st (by simp [hg]) fun h' eb => ⟨rfl, I.turned (t' := s.toks) (fun b o hb e => eb b o hb e) f0 f1 f3 f4 f5⟩
    · exact wpAny_pyNext_wide_end (I.ok.hd hc) st (by simp [hg]) fun h' eb => ⟨rfl, I.turned (t' := s.toks) (fun b o hb e => eb b o hb e) f0 f1 f3 f4 f5⟩
  self := fun _ _ _ _ _ st h => by
    rcases hty with rfl | rfl
    · exact wpAny_pyIter_striter_ascii st h
    · exact wpAny_pyIter_striter_wide st h
section
variable {X : Cx} {tg : Expr}
def iStr (tl : TE) : TI := fun σ H R => tl σ H fun x H1 => ∃ z, x = .str z ∧ R (Its z) H1
theorem pi_str {l : Expr} {tl : TE} (hl : PE X l tl) : PI X tg l (iStr tl) := by
  intro pins s σ H R I h
  refine thn (hl pins s σ H _ I h) fun v s1 ⟨x, H1, I1, r1, q1⟩ => ?_
  obtain ⟨z, e, q⟩ := q1
  subst e
  obtain ⟨t, rfl⟩ := r1
  refine wpAny_pyIter_strU ?_
  refine ⟨s1.heap.objs.size, [s1.heap.objs.size], _, _, H1, rfl, I1.kept (t' := s1.toks) fun b o e => Heap.get?_push_of_some _ e, turn_str (ty := strIterType z) (t := t) (by unfold strIterType; split <;> simp), ⟨_, Heap.get?_push_size _ rfl, rfl, rfl⟩, fun b hb => ?_, q⟩
  have e : b = s1.heap.objs.size := by simpa using hb
  subst e
  exact I1.fpOk (Nat.le_refl _) (I1.hok.fresh (Nat.le_refl _))
end
/-! ### a comprehension, by a word: Pv i ys σ H, ys the items so far -/
theorem comp_by {J : It} {n : Nat} {ls : List Str} {js : List Nat} {g : TG} {tt : TT} {te : TE} {σ : St} {H1 : Hp} {D : Addr} {Q : VK} (Pv : Nat → List V → St → Hp → Prop)
    (h0 : Pv 0 [] (capσ ls js σ) (upd H1 D (.lst []))) (hgo : ∀ i ys σ H, i < n → Pv i ys σ H → J.go i H) (hst : ∀ ys σ H, Pv n ys σ H → J.stop n H)
    (hs : ∀ i ys σ H x H2, i < n → Pv i ys σ H → J.yld i H x H2 → g x σ H2 fun σ2 H3 => tt σ2 H3 fun b H4 => if b = true then te σ2 H4 fun y H5 => H5 D = some (.lst ys) ∧ ys.length < sizeLine ∧ Pv (i + 1) (ys ++ [y]) σ2 (upd H5 D (.lst (ys ++ [y]))) else Pv (i + 1) ys σ2 H4)
    (hd : ∀ ys σ H, Pv n ys σ H → Q (.ref D) H) :
    CompW J ls js g tt te σ H1 D Q := by
  refine ⟨fun i m ys σ H => m = n - i ∧ i ≤ n ∧ Pv i ys σ H, ⟨n, by simp, Nat.zero_le _, h0⟩, ?_⟩
  rintro i m ys σ H ⟨rfl, hi, p⟩
  by_cases hlt : i < n
  · exact .inr ⟨hgo i ys σ H hlt p, Pv (i + 1), fun ys' σ2 H2 p' => ⟨n - (i + 1), by omega, rfl, hlt, p'⟩, fun x H2 y => hs i ys σ H x H2 hlt p y⟩
  · have e : i = n := by omega
    subst e
    exact .inl ⟨hst ys σ H p, hd ys σ H p⟩
theorem comp_list {K : Frag} {a : Addr} {xs : List V} {ls : List Str} {js : List Nat} {g : TG} {tt : TT} {te : TE} {σ : St} {H1 : Hp} {D : Addr} {Q : VK} (Pv : Nat → List V → St → Hp → Prop)
    (h0 : Pv 0 [] (capσ ls js σ) (upd H1 D (.lst []))) (hl : ∀ i ys σ H, i ≤ xs.length → Pv i ys σ H → SqL K H a xs)
    (hs : ∀ i x ys σ H, xs[i]? = some x → Pv i ys σ H → g x σ H fun σ2 H3 => tt σ2 H3 fun b H4 => if b = true then te σ2 H4 fun y H5 => H5 D = some (.lst ys) ∧ ys.length < sizeLine ∧ Pv (i + 1) (ys ++ [y]) σ2 (upd H5 D (.lst (ys ++ [y]))) else Pv (i + 1) ys σ2 H4)
    (hd : ∀ ys σ H, Pv xs.length ys σ H → Q (.ref D) H) :
    CompW (Itl K a) ls js g tt te σ H1 D Q :=
  comp_by (n := xs.length) Pv h0 (fun i ys σ H hi p => ⟨xs, xs[i], hl i ys σ H (Nat.le_of_lt hi) p, by simp [hi]⟩) (fun ys σ H p => ⟨xs, hl _ ys σ H (Nat.le_refl _) p, Nat.le_refl _⟩)
    (fun i ys σ H x H2 hi p y => by
      obtain ⟨e, y⟩ := y
      subst e
      exact hs i x ys σ _ (y xs (hl i ys σ _ (Nat.le_of_lt hi) p)) p) hd
theorem comp_str {z : Str} {ls : List Str} {js : List Nat} {g : TG} {tt : TT} {te : TE} {σ : St} {H1 : Hp} {D : Addr} {Q : VK} (Pv : Nat → List V → St → Hp → Prop)
    (h0 : Pv 0 [] (capσ ls js σ) (upd H1 D (.lst [])))
    (hs : ∀ i c ys σ H, z.cps.toList[i]? = some c → Pv i ys σ H → g (.str ⟨#[c]⟩) σ H fun σ2 H3 => tt σ2 H3 fun b H4 => if b = true then te σ2 H4 fun y H5 => H5 D = some (.lst ys) ∧ ys.length < sizeLine ∧ Pv (i + 1) (ys ++ [y]) σ2 (upd H5 D (.lst (ys ++ [y]))) else Pv (i + 1) ys σ2 H4)
    (hd : ∀ ys σ H, Pv z.length ys σ H → Q (.ref D) H) :
    CompW (Its z) ls js g tt te σ H1 D Q :=
  comp_by (n := z.length) Pv h0 (fun i ys σ H hi p => hi) (fun ys σ H p => Nat.le_refl _)
    (fun i ys σ H x H2 hi p y => by
      obtain ⟨e, c, hc, ex⟩ := y
      subst e ex
      exact hs i c ys σ _ hc p) hd

/-! ### texts: slices, comparisons, the built-ins all and any -/
/-- the signs of z[lo:hi] -/
theorem slice_cps (z : Str) (lo hi : Option Int) : (Txt.slice z lo hi).cps.toList = (z.cps.toList.drop (HT.sIx z.length 0 lo)).take (HT.sIx z.length z.length hi - HT.sIx z.length 0 lo) := by
  have hle0 := HT.sIx_le z.length 0 (Nat.zero_le _) lo
  have hle1 := HT.sIx_le z.length z.length (Nat.le_refl _) hi
  have ix : Builtin.Str.strSliceIndices lo hi 1 z.length = (List.range (HT.sIx z.length z.length hi - HT.sIx z.length 0 lo)).map (HT.sIx z.length 0 lo + ·) := by
    rw [← sliceRange_one]
    have pos : (1 : Int) > 0 := by decide
    cases lo with
    | none =>
      cases hi with
      | none => rfl
      | some j =>
        simp only [Builtin.Str.strSliceIndices, HT.sIx, pos, if_true]
        congr 1
        by_cases h : j < 0
        · simp only [h, if_true]; omega
        · simp only [h, if_false]; omega
    | some i =>
      have e1 : max 0 (min (if i < 0 then i + (z.length : Int) else i) (z.length : Int)) = ((HT.sIx z.length 0 (some i) : Nat) : Int) := by
        simp only [HT.sIx]
        by_cases h : i < 0
        · simp only [h, if_true]; omega
        · simp only [h, if_false]; omega
      cases hi with
      | none =>
        simp only [Builtin.Str.strSliceIndices, pos, if_true]
        rw [e1]
        rfl
      | some j =>
        have e2 : max 0 (min (if j < 0 then j + (z.length : Int) else j) (z.length : Int)) = ((HT.sIx z.length z.length (some j) : Nat) : Int) := by
          simp only [HT.sIx]
          by_cases h : j < 0
          · simp only [h, if_true]; omega
          · simp only [h, if_false]; omega
        simp only [Builtin.Str.strSliceIndices, pos, if_true]
        rw [e1, e2]
  have hp := pick_run z.cps (HT.sIx z.length 0 lo) (HT.sIx z.length z.length hi - HT.sIx z.length 0 lo)
  unfold Txt.slice
  rw [ix]
  split
  · rename_i h
    simp only [List.length_map, List.length_range, beq_self_eq_true, Bool.true_and, beq_iff_eq] at h
    have h0 : HT.sIx z.length 0 lo = 0 := by omega
    have h1 : HT.sIx z.length z.length hi = z.length := by omega
    rw [h0, h1, List.drop_zero, Nat.sub_zero, List.take_of_length_le (by simp [Str.length])]
  · rw [← hp]
theorem slice_len (z : Str) (lo hi : Option Int) : (Txt.slice z lo hi).length ≤ z.length := Txt.slice_le z lo hi
section
variable {X : Cx}
def rSlS : V → Option Int → Option Int → Hp → VK → Prop := fun x lo hi H Q => ∃ z, x = .str z ∧ z.length ≤ sizeLine ∧ Q (.str (Txt.slice z lo hi)) H
theorem sl_str : SlR X rSlS := by
  intro pins s σ H x v vl vu lo hi sl Q I rx hs pl pu h
  obtain ⟨z, rfl, hz, q⟩ := h
  obtain ⟨t, rfl⟩ := rx
  refine ⟨"str", _, F.slot_str_getitem.lookup, typeIs_str _ _ _, ?_⟩
  have go : ∀ l u : Option (Int × Tok), vl = partValue l → vu = partValue u → l.map (·.1) = lo → u.map (·.1) = hi → wpAny (model X.prog X.w) X.A (getItem (.str z t) (.ref sl)) (EP X pins σ Q) X.xe s := by
    rintro l u rfl rfl rfl rfl
    obtain ⟨o, h1, h2, h3⟩ := hs
    refine wpAny_getItem_str_slice (l := l) (u := u) (st := none) ⟨o, h1, h2, h3⟩ rfl ?_
    exact post_val_or_str ⟨Nat.le_trans (Txt.slice_le z _ _) hz, fun t' k => ⟨.str (Txt.slice z (l.map (·.1)) (u.map (·.1))), H, I.tok _, ⟨_, rfl⟩, q⟩⟩
  cases pl with
  | none =>
    cases pu with
    | none => exact go none none rfl rfl rfl rfl
    | int j tj => exact go none (some (j, tj)) rfl rfl rfl rfl
  | int i ti =>
    cases pu with
    | none => exact go (some (i, ti)) none rfl rfl rfl rfl
    | int j tj => exact go (some (i, ti)) (some (j, tj)) rfl rfl rfl rfl
theorem op_le_str : OpR X (compareOp .LtE) (fun x y H Q => ∃ i j, x = .str i ∧ y = .str j ∧ Q (.bl (!decide (j.cps.toList < i.cps.toList))) H) := by
  intro pins s σ H x y v u Q I rx ry h
  obtain ⟨i, j, rfl, rfl, q⟩ := h
  obtain ⟨t, rfl⟩ := rx
  obtain ⟨t', rfl⟩ := ry
  exact P.le_str (fin_bl I q rfl)
theorem vals_bl {bs : List Bool} {us : List Value} (r : Vals (bs.map V.bl) us) (i : Nat) (v : Value) (h : us[i]? = some v) : v = .bool (bs.getD i false) := by
  induction bs generalizing us i with
  | nil => cases r; simp at h
  | cons b r' ih =>
    cases r with
    | cons r0 rr =>
      cases i with
      | zero =>
        have h0 : some _ = some v := h
        cases h0
        exact r0
      | succ i => simpa using ih rr i (by simpa using h)
theorem all_range (bs : List Bool) : (List.range bs.length).all (fun i => bs.getD i false) = bs.all id := by
  rw [Bool.eq_iff_iff, List.all_eq_true, List.all_eq_true]
  constructor
  · intro h b hb
    obtain ⟨i, hi, rfl⟩ := List.mem_iff_getElem.mp hb
    have := h i (by simpa using hi)
    simpa [hi] using this
  · intro h i hi
    have hi : i < bs.length := by simpa using hi
    simpa [hi] using h bs[i] (List.getElem_mem hi)
theorem any_range (bs : List Bool) : (List.range bs.length).any (fun i => bs.getD i false) = bs.any id := by
  rw [Bool.eq_iff_iff, List.any_eq_true, List.any_eq_true]
  constructor
  · rintro ⟨i, hi, h⟩
    have hi : i < bs.length := by simpa using hi
    exact ⟨bs[i], List.getElem_mem hi, by simpa [hi] using h⟩
  · rintro ⟨b, hb, h⟩
    obtain ⟨i, hi, rfl⟩ := List.mem_iff_getElem.mp hb
    exact ⟨i, by simpa using hi, by simpa [hi] using h⟩
def rAll (K : Frag) (f : List Bool → Bool) : List V → Hp → VK → Prop := fun xs H Q => ∃ a bs, xs = [.ref a] ∧ SqL K H a (bs.map V.bl) ∧ Q (.bl (f bs)) H
theorem call_all (hc : X.calm = true) : CallR X (.builtin "all") (rAll X.K fun bs => bs.all id) := by
  intro pins s σ H xs us Q I r h
  obtain ⟨a, bs, rfl, hq, q⟩ := h
  cases r with
  | cons r rr =>
    cases rr
    cases r
    obtain ⟨its, rv, p, hz⟩ := I.list hq
    have hl := rv.length
    rw [List.length_map] at hl
    refine call_all_walk (wpAny_pyIter_list p.isList ?_)
    have hne : a ≠ s.heap.objs.size := by
      obtain ⟨o, n, e, _⟩ := p
      exact Nat.ne_of_lt (Heap.lt_size e)
    refine ⟨s.heap.objs.size, _, _, _, _, _, fun i => bs.getD i false, rfl, Walks.list (A := X.A.in1) (show X.A.in1.handled = none from I.ok.hd hc) _ a hne its.toArray, ⟨⟨_, Heap.get?_push_size _ rfl, rfl, rfl⟩, p.isList.at fun o e => Heap.get?_push_of_some _ e⟩, fun i v s1 Q1 E1 hv q1 => ?_, fun h' tk hk => ?_⟩
    · have hv := vals_bl rv i v (by simpa using hv)
      subst hv
      exact wpAny_truthy_bool q1
    · rw [List.size_toArray, ← hl, all_range]
      refine ⟨.bl (bs.all id), H, I.kept fun b o e => hk b o (fun z => ?_) (Heap.get?_push_of_some _ e), rfl, q⟩
      have z : b = s.heap.objs.size := by simpa using z
      exact absurd (z ▸ Heap.lt_size e) (Nat.lt_irrefl _)
theorem call_any (hc : X.calm = true) : CallR X (.builtin "any") (rAll X.K fun bs => bs.any id) := by
  intro pins s σ H xs us Q I r h
  obtain ⟨a, bs, rfl, hq, q⟩ := h
  cases r with
  | cons r rr =>
    cases rr
    cases r
    obtain ⟨its, rv, p, hz⟩ := I.list hq
    have hl := rv.length
    rw [List.length_map] at hl
    refine call_any_walk (wpAny_pyIter_list p.isList ?_)
    have hne : a ≠ s.heap.objs.size := by
      obtain ⟨o, n, e, _⟩ := p
      exact Nat.ne_of_lt (Heap.lt_size e)
    refine ⟨s.heap.objs.size, _, _, _, _, _, fun i => bs.getD i false, rfl, Walks.list (A := X.A.in1) (show X.A.in1.handled = none from I.ok.hd hc) _ a hne its.toArray, ⟨⟨_, Heap.get?_push_size _ rfl, rfl, rfl⟩, p.isList.at fun o e => Heap.get?_push_of_some _ e⟩, fun i v s1 Q1 E1 hv q1 => ?_, fun h' tk hk => ?_⟩
    · have hv := vals_bl rv i v (by simpa using hv)
      subst hv
      exact wpAny_truthy_bool q1
    · rw [List.size_toArray, ← hl, any_range]
      refine ⟨.bl (bs.any id), H, I.kept fun b o e => hk b o (fun z => ?_) (Heap.get?_push_of_some _ e), rfl, q⟩
      have z : b = s.heap.objs.size := by simpa using z
      exact absurd (z ▸ Heap.lt_size e) (Nat.lt_irrefl _)
/-- isinstance(x, c), c a built-in class or a class of the text -/
def clsOf : V → Option Value
  | .ty n => some (.type n)
  | .ref C => some (.ref C)
  | _ => none
theorem clsOf_rel {c : V} {cv u : Value} (h : clsOf c = some cv) (r : RelV c u) : u = cv := by
  cases c <;> first
    | (cases h; done)
    | (cases h; exact r)
inductive rIsi (K : Frag) (xs : List V) (H : Hp) (Q : VK) : Prop
  | mk (x : _) (c : _) (t : _) (b : _) (cv : _) (_ : xs = [x, c]) (_ : clsOf c = some cv) (_ : TyOf K H x t) (_ : kitOne K t cv = some b) (_ : Q (.bl b) H) : rIsi K xs H Q
theorem call_isi : CallR X (.builtin "isinstance") (rIsi X.K) := by
  intro pins s σ H xs us Q I r h
  obtain ⟨x, c, t, b, cv, rfl, rc, ty, hk, q⟩ := h
  cases r with
  | cons r1 rr =>
    cases rr with
    | cons r2 rr =>
      cases rr
      cases clsOf_rel rc r2
      exact isinst_ok I r1 ty hk fun tk => ⟨.bl b, H, I.tok _, rfl, q⟩
end

/-! ### a def whose exceptions are told -/
section
variable {P : Program} {w : World} {K : Frag} {mg : Str → Option Value} {base : Heap}
abbrev cxF (P : Program) (w : World) (K : Frag) (mg : Str → Option Value) (base : Heap) (cm : Bool) (N : List Str) (qual : Str) (scope : Scope) (f : Addr) (cd : Value) (A : Around) (outer : List Env) (s : Shared) (H : Hp) (E : XK) : Cx :=
  cxOf (CXF P w) cm P w K mg base N qual scope f cd A outer s H E
/-- THE RULE for a def -/
theorem Fun.okX {cm : Bool} {x qual : Str} {st : Stmt} {f : Addr} {fd : FuncData} {N ps : List Str} {k : Nat} {sp : Sp} (F : Fun K x qual st f fd) (S : FnScope N ps (defScope st)) (len : ∀ vs H Q E, sp vs H Q E → vs.length = ps.length)
    (hbody : ∀ (cdv : Value) (A : Around) (outer : List Env) (s : Shared) (H : Hp) (vs : List V) (Q : VK) (E : XK), Room cm k (A.deeper (envOfC qual (defScope st) s.heap.objs.size f cdv)) → sp vs H Q E →
      XOk (cxF P w K mg base cm N qual (defScope st) f cdv A outer s H E) (fun _ => E) →
      ∃ t, PSs (cxF P w K mg base cm N qual (defScope st) f cdv A outer s H E) (defBody st) t ∧ t { nx := fun _ H' => Q .non H', rt := Q } (start N vs) H) : FnOk P w K mg base (CXF P w) cm (k + 1) f fd ps sp := by
  obtain ⟨oc, od, kV, doc, pm, an, cdv, ct, osl, rfl, lk, hcd⟩ := F.ex
  exact fn_of lk hcd S len fun A outer s H vs Q E hr hsp => hbody cdv A outer s H vs Q E hr hsp xok_def
end
end L2

set_option Elab.async false
set_option linter.all false
set_option maxRecDepth 100000
set_option maxHeartbeats 4000000
namespace L2
open PySem PySem.Spec PyProof.Rows PySem.W PySem.Calls

/-- a def of the text that keeps its promise -/
def IsDef (P : Program) (w : World) (K : Frag) (mg : Str → Option Value) (base : Heap) (cm : Bool) (k : Nat) (x : Str) (ps : List Str) (sp : Sp) : Prop :=
  ∃ f fd, FnOk P w K mg base (CXF P w) cm k f fd ps sp ∧ mg x = some (.ref f) ∧ keepIn K (.ref f) = true ∧ Binds K fd ps []
theorem isDef_mk {P : Program} {w : World} {K : Frag} {mg : Str → Option Value} {base : Heap} {cm : Bool} {k : Nat} {x y : Str} {ps : List Str} {sp : Sp} {st : Stmt} {f : Addr} {fd : FuncData} (F : Fun K x y st f fd) (hm : mg x = some (.ref f)) (b : Binds K fd ps [])
    (ok : FnOk P w K mg base (CXF P w) cm k f fd ps sp) : IsDef P w K mg base cm k x ps sp := ⟨f, fd, ok, hm, F.kp, b⟩
section
variable {X : Cx} {cm : Bool} {k : Nat} {x : Str} {ps : List Str} {sp : Sp} {E : St → XK} {e : Expr} {es : List Expr} {t : TA} {p pos : Pos}
/-- f(..) of a def of the text -/
theorem pe_def (D : IsDef X.prog X.w X.K X.mg X.base cm k x ps sp) (hr : Room cm k X.A) (hx : Passes (CXF X.prog X.w) X E) (ha : PA X (e :: es) t) (hg : Gl X x := by rfl) (hdb : (x == ("__debug__" : Str)) = false := by decide)
    (he : starEach (e :: es) X.env = (false, eval e X.env) :: starEach es X.env := by rfl) (hpl : (backTo pos (starEach es X.env)).any (·.1) = false := by rfl) : PE X (.Call (.Name x p) (e :: es) [] pos) (tCall sp [] E t) := by
  obtain ⟨f, fd, ok, hm, hk, hb⟩ := D
  exact pe_call ok hr hg hm hk hb .nil hx ha hdb he hpl
/-- a constant of the module -/
theorem pe_con' {v : V} (h : ∃ u, X.mg x = some u ∧ RelV v u) (hg : Gl X x := by rfl) (hd : (x == ("__debug__" : Str)) = false := by decide) : PE X (.Name x pos) (tC v) := by
  obtain ⟨u, h1, h2⟩ := h
  exact pe_glob hg h1 h2 hd
end
theorem tYes_if {σ : St} {H : Hp} {A B : Hp → Prop} (h : A H) : tYes σ H (fun b H4 => if b = true then A H4 else B H4) := by
  show if true = true then A H else B H
  exact iteT h
theorem gN_yes {i : Nat} {x : V} {σ : St} {H : Hp} {A B : St → Hp → Prop} (h : A (σ.set i (some x)) H) : gName i x σ H (fun σ2 H3 => tYes σ2 H3 (fun b H4 => if b = true then A σ2 H4 else B σ2 H4)) := by
  show if true = true then A (σ.set i (some x)) H else B (σ.set i (some x)) H
  exact iteT h
theorem le_line {n : Nat} (h : n ≤ 100000) : n ≤ sizeLine := Nat.le_trans h (by decide)
theorem lt_line {n : Nat} (h : n ≤ 100000) : n < sizeLine := Nat.lt_of_le_of_lt h (by decide)
/-- two statements with a word between them -/
def tCut (t u : TS) : TS := fun D σ H => ∃ Pm : St → Hp → Prop, t { D with nx := Pm } σ H ∧ ∀ σ' H', Pm σ' H' → u D σ' H'
theorem pss_cut {X : Cx} {st : Stmt} {rest : List Stmt} {t u : TS} (h1 : PS X st t) (h2 : PSs X rest u) : PSs X (st :: rest) (tCut t u) := by
  intro pins s σ H D I h
  obtain ⟨Pm, ht, hu⟩ := h
  refine wpAny_execs_cons (thn (h1 pins s σ H { D with nx := Pm } I ht) fun f s1 q => ?_)
  cases f with
  | next => obtain ⟨σ', H', I', p⟩ := q; exact h2 pins s1 σ' H' D I' (hu σ' H' p)
  | brk => exact q
  | cont => exact q
  | ret v => exact q
/-- all that stands stays -/
theorem Same.upd {H : Hp} {a : Addr} {o : HO} (h : H a = none) : Same H (upd H a o) := fun b u e => by rw [upd_ne (ne_of_none e h)]; exact e
theorem Same.upd2 {H H' : Hp} {a : Addr} {o : HO} (s : Same H H') (h : H a = none) : Same H (L2.upd H' a o) := fun b u e => by rw [upd_ne (ne_of_none e h)]; exact s b u e
end L2
namespace QF
open PySem L2
theorem on1 {P : List Value → Prop} (h : ∀ a, P [a]) : ∀ us : List Value, us.length = 1 → P us
  | [a], _ => h a
theorem on2 {P : List Value → Prop} (h : ∀ a b, P [a, b]) : ∀ us : List Value, us.length = 2 → P us
  | [a, b], _ => h a b
theorem on3 {P : List Value → Prop} (h : ∀ a b c, P [a, b, c]) : ∀ us : List Value, us.length = 3 → P us
  | [a, b, c], _ => h a b c
theorem on4 {P : List Value → Prop} (h : ∀ a b c d, P [a, b, c, d]) : ∀ us : List Value, us.length = 4 → P us
  | [a, b, c, d], _ => h a b c d
theorem on5 {P : List Value → Prop} (h : ∀ a b c d e, P [a, b, c, d, e]) : ∀ us : List Value, us.length = 5 → P us
  | [a, b, c, d, e], _ => h a b c d e
end QF

set_option Elab.async false
set_option linter.all false
set_option maxRecDepth 100000
set_option maxHeartbeats 4000000
namespace L2
open PySem PySem.Spec PyProof.Rows PySem.W PySem.Calls

/-! ### arguments that are no *xs -/
def notStar : Expr → Bool
  | .Starred _ _ => false
  | _ => true
theorem starEach_plain {e : Expr} {es : List Expr} {env : Env} (h : notStar e = true) : starEach (e :: es) env = (false, eval e env) :: starEach es env := by
  cases e <;> first | rfl | cases h
theorem pa_c {X : Cx} {e : Expr} {es : List Expr} {te : TE} {t : TA} (ha : PE X e te) (hr : PA X es t) (hn : notStar e = true := by rfl) : PA X (e :: es) (tCons te t) := pa_cons ha hr (starEach_plain hn)
/-! ### a def or method whose parameters may have defaults -/
structure FunD (K : Frag) (x qual : Str) (st : Stmt) (f : Addr) (fd : FuncData) : Prop where
  ex : ∃ (oc : Value) (od : Option Addr) (dV kV doc pm : Value) (an : Option Addr) (cdv ct : Value) (osl : Array (Option Value)),
    fd = fnOf x qual (defArgs st) (defBody st) (defScope st) dV kV doc pm an cdv ct ∧ K.lookup f = some ⟨oc, od, .func fd, osl⟩ ∧ codeIn K cdv qual = true
  kp : keepIn K (.ref f) = true
theorem funD_mk {K : Frag} {x qual : Str} {st : Stmt} {f : Addr} {oc : Value} {od an : Option Addr} {osl : Array (Option Value)} {dV kV doc pm cdv ct : Value} (l : K.lookup f = some ⟨oc, od, .func (fnOf x qual (defArgs st) (defBody st) (defScope st) dV kV doc pm an cdv ct), osl⟩)
    (c : codeIn K cdv qual = true) (k : keepIn K (.ref f) = true) : FunD K x qual st f (fnOf x qual (defArgs st) (defBody st) (defScope st) dV kV doc pm an cdv ct) := ⟨⟨oc, od, dV, kV, doc, pm, an, cdv, ct, osl, rfl, l, c⟩, k⟩
section
variable {P : Program} {w : World} {K : Frag} {mg : Str → Option Value} {base : Heap}
theorem FunD.okX {cm : Bool} {x qual : Str} {st : Stmt} {f : Addr} {fd : FuncData} {N ps : List Str} {k : Nat} {sp : Sp} (F : FunD K x qual st f fd) (S : FnScope N ps (defScope st)) (len : ∀ vs H Q E, sp vs H Q E → vs.length = ps.length)
    (hbody : ∀ (cdv : Value) (A : Around) (outer : List Env) (s : Shared) (H : Hp) (vs : List V) (Q : VK) (E : XK), Room cm k (A.deeper (envOfC qual (defScope st) s.heap.objs.size f cdv)) → sp vs H Q E →
      XOk (cxF P w K mg base cm N qual (defScope st) f cdv A outer s H E) (fun _ => E) →
      ∃ t, PSs (cxF P w K mg base cm N qual (defScope st) f cdv A outer s H E) (defBody st) t ∧ t { nx := fun _ H' => Q .non H', rt := Q } (start N vs) H) : FnOk P w K mg base (CXF P w) cm (k + 1) f fd ps sp := by
  obtain ⟨oc, od, dV, kV, doc, pm, an, cdv, ct, osl, rfl, lk, hcd⟩ := F.ex
  exact fn_of lk hcd S len fun A outer s H vs Q E hr hsp => hbody cdv A outer s H vs Q E hr hsp xok_def
end

/-! ### classes and methods of the text -/
/-- a method that keeps its promise -/
def IsMeth (P : Program) (w : World) (K : Frag) (mg : Str → Option Value) (base : Heap) (cm : Bool) (k : Nat) (C : Addr) (m : Str) (ps : List Str) (sp : Sp) : Prop :=
  ∃ f fd, FnOk P w K mg base (CXF P w) cm k f fd ps sp ∧ Meth K C m f ∧ Binds K fd ps [] ∧ Cls K C
/-- a class that is made: its __init__ keeps its promise; dvs: the defaults that fill up -/
def IsNew (P : Program) (w : World) (K : Frag) (mg : Str → Option Value) (base : Heap) (cm : Bool) (k : Nat) (x : Str) (C : Addr) (ps : List Str) (dvs : List V) (sp : Sp) : Prop :=
  ∃ f fd ds, FnOk P w K mg base (CXF P w) cm k f fd ps sp ∧ Mk K C f ∧ mg x = some (.ref C) ∧ Binds K fd ps ds ∧ Vals dvs ds
theorem isNew_mk {P : Program} {w : World} {K : Frag} {mg : Str → Option Value} {base : Heap} {cm : Bool} {k : Nat} {x : Str} {C f : Addr} {fd : FuncData} {ps : List Str} {dvs : List V} {ds : List Value} {sp : Sp} (h1 : FnOk P w K mg base (CXF P w) cm k f fd ps sp) (h2 : Mk K C f) (h3 : mg x = some (.ref C)) (h4 : Binds K fd ps ds) (h5 : Vals dvs ds) : IsNew P w K mg base cm k x C ps dvs sp := ⟨f, fd, ds, h1, h2, h3, h4, h5⟩
theorem isMeth_mk {P : Program} {w : World} {K : Frag} {mg : Str → Option Value} {base : Heap} {cm : Bool} {k : Nat} {m : Str} {C f : Addr} {fd : FuncData} {ps : List Str} {sp : Sp} (h1 : FnOk P w K mg base (CXF P w) cm k f fd ps sp) (h2 : Meth K C m f) (h3 : Binds K fd ps []) (h4 : Cls K C) : IsMeth P w K mg base cm k C m ps sp := ⟨f, fd, h1, h2, h3, h4⟩
section
variable {X : Cx} {cm : Bool} {k : Nat} {x m : Str} {ps : List Str} {sp : Sp} {E : St → XK} {e o : Expr} {es : List Expr} {t : TA} {to : TE} {p pos apos : Pos} {C : Addr} {dvs : List V}
theorem pe_newD (D : IsNew X.prog X.w X.K X.mg X.base cm k x C ps dvs sp) (hr : Room cm (k + 1) X.A) (hx : Passes (CXF X.prog X.w) X E) (ha : PA X (e :: es) t) (hg : Gl X x := by rfl) (hdb : (x == ("__debug__" : Str)) = false := by decide)
    (he : starEach (e :: es) X.env = (false, eval e X.env) :: starEach es X.env := by rfl) (hpl : (backTo pos (starEach es X.env)).any (·.1) = false := by rfl) : PE X (.Call (.Name x p) (e :: es) [] pos) (tMake C sp dvs E t) := by
  obtain ⟨f, fd, ds, ok, M, hm, hb, hd⟩ := D
  exact pe_make M ok hr hg hm hb hd hx ha hdb he hpl
theorem pe_methD {pl : Sem Bool} (ho : PE X o to) (D : IsMeth X.prog X.w X.K X.mg X.base cm k C m ps sp) (hr : Room cm k X.A) (hx : Passes (CXF X.prog X.w) X E) (ha : PA X (e :: es) t)
    (hst : starEach (e :: es) X.env = (false, eval e X.env) :: starEach es X.env := by rfl) (hpl : (backTo pos (starEach es X.env)).any (·.1) = false := by rfl)
    (ht : eval (.Call (.Attribute o m apos) (e :: es) [] pos) X.env = (do
      let ov ← eval o X.env
      standAt apos.atName
      let (f, first) ← holding [ov] (getMethod ov m pl)
      callWith pos f first (backTo pos (starEach (e :: es) X.env)) (backToKw pos (keywordEach [] X.env))) := by rfl) : PE X (.Call (.Attribute o m apos) (e :: es) [] pos) (tMeth C m sp [] E to t) := by
  obtain ⟨f, fd, ok, hm, hb, c⟩ := D
  exact pe_meth ho c hm ok hr hb .nil hx ha hst hpl ht
end

/-! ### the rules that speak of the text, with the text told -/
section
variable {X : Cx}
theorem pi_listK (K : Frag) {tg l : Expr} {tl : TE} (hl : PE X l tl) (h : X.K = K := by rfl) : PI X tg l (iList K tl) := h ▸ pi_list hl
theorem pe_fldK (K : Frag) {e : Expr} {f : Str} {pos : Pos} {ta : TE} (he : PE X e ta) (hb : attributeBase e f X.env (eval e X.env) = eval e X.env := by rfl) (h : X.K = K := by rfl) : PE X (.Attribute e f pos) (tFld K ta f) := h ▸ pe_fld he hb
theorem ps_fldK (K : Frag) {o value : Expr} {f : Str} {pos pos' : Pos} {ta tv : TE} (ha : PE X o ta) (hv : PE X value tv) (hs : swapsWith value (some (.Attribute o f pos')) pos.line X.env = pure false := by rfl) (h : X.K = K := by rfl) : PS X (.Assign [.Attribute o f pos'] value pos) (sFld K ta tv f) := h ▸ ps_fld ha hv hs
theorem ix_listK (K : Frag) (h : X.K = K := by rfl) : IxR X (rIxL K) := h ▸ ix_list
theorem ix_tupK (K : Frag) (h : X.K = K := by rfl) : IxR X (rIxT K) := h ▸ ix_tup
theorem sl_listK (K : Frag) (h : X.K = K := by rfl) : SlR X (rSlL K) := h ▸ sl_list
theorem op_in_seqK (K : Frag) (h : X.K = K := by rfl) : OpR X (compareOp .In) (rIn K false) := h ▸ op_in_seq
inductive rLenS (K : Frag) (xs : List V) (H : Hp) (Q : VK) : Prop
  | mk (p : _) (ys : _) (_ : xs = [.ref p]) (_ : (SqL K H p ys ∨ SqT K H p ys)) (_ : Q (.int ys.length) H) : rLenS K xs H Q
theorem call_len_seqK (K : Frag) (h : X.K = K := by rfl) : CallR X (.builtin "len") (rLenS K) := by
  subst h
  intro pins s σ H xs us Q I r hq
  obtain ⟨p, ys, e, d, q⟩ := hq
  exact call_len_seq pins s σ H xs us Q I r ⟨p, ys, e, d, q⟩
inductive rListOf (K : Frag) (xs : List V) (H : Hp) (Q : VK) : Prop
  | mk (p : _) (ys : _) (_ : xs = [.ref p]) (_ : (SqL K H p ys ∨ SqT K H p ys)) (_ : ∀ l, H l = none → Q (.ref l) (upd H l (.lst ys))) : rListOf K xs H Q
theorem call_list_ofK (K : Frag) (h : X.K = K := by rfl) : CallR X (.type "list") (rListOf K) := by
  subst h
  intro pins s σ H xs us Q I r hq
  obtain ⟨p, ys, e, d, q⟩ := hq
  exact call_list_of pins s σ H xs us Q I r ⟨p, ys, e, d, q⟩
theorem call_allK (K : Frag) (hc : X.calm = true) (h : X.K = K := by rfl) : CallR X (.builtin "all") (rAll K fun bs => bs.all id) := h ▸ call_all hc
theorem call_anyK (K : Frag) (hc : X.calm = true) (h : X.K = K := by rfl) : CallR X (.builtin "any") (rAll K fun bs => bs.any id) := h ▸ call_any hc
theorem call_isiK (K : Frag) (h : X.K = K := by rfl) : CallR X (.builtin "isinstance") (rIsi K) := h ▸ call_isi
theorem pg_tupK (K : Frag) {es : List Expr} {k : Nat} {t : TGs} {n : Nat} {pos : Pos} (hc : X.calm = true) (h : PGs X es t)
    (hn : (assignEach es X.env).length = n := by rfl) (hst : (assignEach es X.env).findIdx? (·.1) = none := by rfl) (hK : X.K = K := by rfl) : PG X (.Tuple es k pos) (gTup K n t) := hK ▸ pg_tup hc h hn hst
theorem pe_bmK (K : Frag) {T : String} {name : Str} {id : String} {r : V → List V → Hp → VK → Prop} {o e : Expr} {es : List Expr} {apos cpos : Pos} {to : TE} {t : TA} (pa : PlainAttrs T) (slot : Slot T name id) (hty : typeOf (.builtin id) = pure (.type "method_descriptor")) (hm : MtR X id r) (ho : PE X o to) (ha : PA X (e :: es) t)
    (hbase : attributeBase o name X.env (eval o X.env) = eval o X.env := by rfl)
    (hfew : ((backTo cpos (starEach (e :: es) X.env)).all (fun x => !x.1) && (backToKw cpos (keywordEach [] X.env)).all (fun x => x.1.isSome)
      && decide ((e :: es).length + ([] : List Keyword).length + (if ([] : List Keyword).isEmpty then 0 else 1) < 30)) = true := by rfl)
    (hline : (apos.endLine == cpos.line) = true := by rfl) (hs : starEach (e :: es) X.env = (false, eval e X.env) :: starEach es X.env := by rfl) (hplain : (backTo cpos (starEach es X.env)).any (·.1) = false := by rfl) (hK : X.K = K := by rfl) :
    PE X (.Call (.Attribute o name apos) (e :: es) [] cpos) (tBM K T r to t) := hK ▸ pe_bm pa slot hty hm ho ha hbase hfew hline hs hplain
end

/-! ### xs.count(y), xs.index(y) of flat items -/
section
variable {X : Cx}
end
end L2

set_option Elab.async false
set_option linter.all false
set_option maxRecDepth 100000
set_option maxHeartbeats 4000000
/-! what the program and the laws speak of -/
namespace QF
open PySem L2
structure TB (mg : Str → Option Value) : Prop where
  n_len : mg "len" = none
  n_range : mg "range" = none
  n_isinstance : mg "isinstance" = none
  n_int : mg "int" = none
  n_bool : mg "bool" = none
  n_str : mg "str" = none
  n_list : mg "list" = none
  n_tuple : mg "tuple" = none
  n_dict : mg "dict" = none
  n_all : mg "all" = none
  n_any : mg "any" = none
  n_min : mg "min" = none
  n_max : mg "max" = none
  n_enumerate : mg "enumerate" = none
  n_ValueError : mg "ValueError" = none
def Con (mg : Str → Option Value) (x : Str) (v : V) : Prop := ∃ u, mg x = some u ∧ RelV v u
/-! cells of the script -/
def cell (ns : List Int) (k : Int) : Int := ns.getD k.toNat 0
theorem cell_at {ns : List Int} {k : Int} (h0 : 0 ≤ k) (h : k < (ns.length : Int)) : atI (ns.map V.int) k = some (.int (cell ns k)) := by
  obtain ⟨j, rfl⟩ := Int.eq_ofNat_of_zero_le h0
  have hj : j < ns.length := by omega
  refine atI_nat ?_
  simp [cell, hj]
theorem cell_out {ns : List Int} {k : Int} (h0 : 0 ≤ k) (h : ¬ k < (ns.length : Int)) : cell ns k = 0 := by
  have hj : ns.length ≤ k.toNat := by omega
  simp [cell, hj]
/-! letters and words -/
def low (c : Nat) : Bool := decide (97 ≤ c) && decide (c ≤ 122)
def isW (z : Str) : Bool := decide (1 ≤ z.length) && decide (z.length ≤ 12) && z.cps.toList.all low
theorem lt1 (a b : Nat) : (([a] : List Nat) < [b]) ↔ a < b := by
  constructor
  · intro h
    cases h with
    | rel h => exact h
    | cons h => cases h
  · intro h; exact .rel h
theorem le_a (c : Nat) : (!decide (([c] : List Nat) < (Str.ofString "a").cps.toList)) = decide (97 ≤ c) := by
  have e : (Str.ofString "a").cps.toList = [97] := by decide +kernel
  rw [e, Bool.eq_iff_iff]
  simp only [Bool.not_eq_true', decide_eq_false_iff_not, decide_eq_true_eq, lt1]
  omega
theorem le_z (c : Nat) : (!decide ((Str.ofString "z").cps.toList < ([c] : List Nat))) = decide (c ≤ 122) := by
  have e : (Str.ofString "z").cps.toList = [122] := by decide +kernel
  rw [e, Bool.eq_iff_iff]
  simp only [Bool.not_eq_true', decide_eq_false_iff_not, decide_eq_true_eq, lt1]
  omega
theorem len_app (x y : Str) : (x ++ y).length = x.length + y.length := by
  show (x.cps ++ y.cps).size = _
  rw [Array.size_append]; rfl
/-! promises of the small defs -/
inductive sp_at (K : W.Frag) (vs : List V) (H : Hp) (Q : VK) (u3 : XK) : Prop
  | mk (a : _) (ns : _) (k : _) (_ : vs = [.ref a, .int k]) (_ : SqL K H a (ns.map V.int)) (_ : 0 ≤ k) (_ : Q (.int (cell ns k)) H) : sp_at K vs H Q u3
inductive sp_whole (vs : List V) (H : Hp) (Q : VK) (u3 : XK) : Prop
  | mk (i : _) (_ : vs = [.int i]) (_ : Q (.bl true) H) : sp_whole  vs H Q u3
inductive sp_low (vs : List V) (H : Hp) (Q : VK) (u3 : XK) : Prop
  | mk (c : Nat) (_ : vs = [.str ⟨#[c]⟩]) (_ : Q (.bl (low c)) H) : sp_low  vs H Q u3
inductive sp_word (vs : List V) (H : Hp) (Q : VK) (u3 : XK) : Prop
  | mk (z : Str) (_ : vs = [.str z]) (_ : z.length ≤ 100000) (_ : ∀ H', Same H H' → Q (.bl (isW z)) H') : sp_word  vs H Q u3
inductive sp_between (vs : List V) (H : Hp) (Q : VK) (u3 : XK) : Prop
  | mk (l n h : Int) (_ : vs = [.int l, .int n, .int h]) (_ : Q (.bl (decide (l ≤ n) && decide (n ≤ h))) H) : sp_between  vs H Q u3
def spLaw (K : W.Frag) : Sp := fun vs H Q _ => ∃ (a : Addr) (ns : List Int), vs = [.ref a] ∧ SqL K H a (ns.map V.int) ∧ ns.length ≤ 63 ∧ ∀ H', Q (.bl true) H'
/-! error classes -/
structure Er (K : W.Frag) (mg : Str → Option Value) (x : Str) (C : Addr) : Prop where
  m : mg x = some (.ref C)
  e : ErrC K C
/-! numbers of the terms -/
def inR (l n h : Int) : Bool := decide (l ≤ n) && decide (n ≤ h)
inductive sp_number (C : Addr) (vs : List V) (H : Hp) (Q : VK) (E : XK) : Prop
  | mk (nm : Str) (n l h : Int) (_ : vs = [.str nm, .int n, .int l, .int h]) (_ : nm.length ≤ 20) (_ : (0 ≤ l ∧ l ≤ 1)) (_ : (h = 100 ∨ h = 999999)) (_ : (if inR l n h = true then Q .non H else E (.ref C) none H)) : sp_number C vs H Q E
end QF

set_option Elab.async false
set_option linter.all false
set_option maxRecDepth 100000
set_option maxHeartbeats 4000000
namespace QF
open PySem L2
/-- the numbers that the program writes into its refusals -/
theorem told_int {i : Int} (h : i = 0 ∨ i = 1 ∨ i = 12 ∨ i = 40 ∨ i = 60 ∨ i = 100 ∨ i = 999999) : i.natAbs.log2 < 1920 ∧ (Str.ofString (toString i)).length ≤ 6 := by
  rcases h with rfl | rfl | rfl | rfl | rfl | rfl | rfl <;> exact ⟨by decide +kernel, by decide +kernel⟩
theorem len_empty : (Str.empty).length = 0 := by decide +kernel
theorem one_line {x : V} : [x].length ≤ sizeLine := le_line (by simp)
/-! near forms -/
def formOk (x y : Str) (p : Int) : Bool := isW x && isW y && !(x == y) && inR 0 p 999999
inductive sp_form (C : Addr) (vs : List V) (H : Hp) (Q : VK) (E : XK) : Prop
  | mk (x y : Str) (p : Int) (_ : vs = [.str x, .str y, .int p]) (_ : x.length ≤ 100000) (_ : y.length ≤ 100000) (_ : (if formOk x y p = true then ∀ H', Same H H' → Q .non H' else ∀ H', Same H H' → E (.ref C) none H')) : sp_form C vs H Q E
abbrev Form := Str × Str × Int
def trip (f : Form) : List V := [.str f.1, .str f.2.1, .int f.2.2]
def key2 (f : Form) : List Key := [.inr f.1, .inr f.2.1]
def kvOf (f : Form) : List Key × V := (key2 f, .int f.2.2)
def fOk (f : Form) : Bool := formOk f.1 f.2.1 f.2.2
def Trips (H : Hp) (xs : List V) (fs : List Form) : Prop := xs.length = fs.length ∧ ∀ (i : Nat) (f : Form), fs[i]? = some f → ∃ t, xs[i]? = some (V.ref t) ∧ H t = some (.tup (trip f))
def goodNear (fs : List Form) : Bool := decide (fs.length ≤ 60) && fs.all fOk && decide ((fs.map key2).Nodup)
def Short (fs : List Form) : Prop := fs.length ≤ 1000 ∧ ∀ f ∈ fs, f.1.length ≤ 100000 ∧ f.2.1.length ≤ 100000
theorem Trips.same {H H' : Hp} {xs : List V} {fs : List Form} (t : Trips H xs fs) (s : Same H H') : Trips H' xs fs := ⟨t.1, fun i f e => let ⟨b, h1, h2⟩ := t.2 i f e; ⟨b, h1, s _ _ h2⟩⟩
theorem Trips.nil {H : Hp} : Trips H [] [] := ⟨rfl, fun i f e => by simp at e⟩
inductive sp_prices (C : Addr) (vs : List V) (H : Hp) (Q : VK) (E : XK) : Prop
  | mk (a : Addr) (xs : List V) (fs : List Form) (_ : vs = [.ref a]) (_ : H a = some (.lst xs)) (_ : Trips H xs fs) (_ : Short fs) (_ : (if goodNear fs = true then ∀ H' d, Same H H' → H d = none → H' d = some (.dT (fs.map kvOf)) → Q (.ref d) H' else ∀ H', Same H H' → E (.ref C) none H')) : sp_prices C vs H Q E
theorem kv_keys (fs : List Form) : (fs.map kvOf).map (·.1) = fs.map key2 := by rw [List.map_map]; rfl
/-- a form that is no good makes the list no good -/
theorem bad_form {fs : List Form} {i : Nat} {f : Form} (e : fs[i]? = some f) (h : fOk f = false) : goodNear fs = false := by
  have hm : f ∈ fs := List.mem_of_getElem? e
  have : fs.all fOk = false := by
    rw [Bool.eq_false_iff]
    intro z
    rw [List.all_eq_true] at z
    rw [z f hm] at h
    cases h
  simp [goodNear, this]
theorem bad_twice {fs : List Form} {i : Nat} {f : Form} (e : fs[i]? = some f) (h : key2 f ∈ (fs.take i).map key2) : goodNear fs = false := by
  have : ¬ (fs.map key2).Nodup := fun z => by
    obtain ⟨hi, e'⟩ := List.getElem?_eq_some_iff.mp e
    have e2 : fs = fs.take i ++ f :: fs.drop (i + 1) := by
      rw [← e', List.getElem_cons_drop, List.take_append_drop]
    rw [e2, List.map_append, List.map_cons, List.nodup_append] at z
    exact z.2.2 _ h _ (List.mem_cons_self) rfl
  simp [goodNear, this]
theorem good_step {fs : List Form} {i : Nat} {f : Form} (e : fs[i]? = some f) : (fs.take (i + 1)).map kvOf = (fs.take i).map kvOf ++ [kvOf f] := by
  rw [List.take_succ, e, List.map_append]
  rfl
theorem kv_no {fs : List Form} {k : List Key} (h : valV (fs.map kvOf) k = none) : k ∉ fs.map key2 := by
  have := valV_not h
  rwa [kv_keys] at this
theorem kv_yes {fs : List Form} {k : List Key} {v : V} (h : valV (fs.map kvOf) k = some v) : k ∈ fs.map key2 := by
  have := valV_in h
  rwa [kv_keys] at this
/-! terms -/
structure TermsC (K : W.Frag) (C : Addr) : Prop where
  cl : Cls K C
  same : NoAttr K C "same"
  out : NoAttr K C "out"
  into : NoAttr K C "into"
  least : NoAttr K C "least"
  part : NoAttr K C "part"
  near : NoAttr K C "near"
  prices : NoAttr K C "prices"
/-- the numbers of terms -/
structure Nums where
  same : Int
  out : Int
  into : Int
  least : Int
  part : Int
def okNums (n : Nums) : Bool := inR 1 n.same 999999 && inR 0 n.out 999999 && inR 0 n.into 999999 && inR 1 n.least 999999 && inR 1 n.part 100
def flds (n : Nums) (l d : Addr) : List (Str × V) := [("same", .int n.same), ("out", .int n.out), ("into", .int n.into), ("least", .int n.least), ("part", .int n.part), ("near", .ref l), ("prices", .ref d)]
def flds5 (n : Nums) : List (Str × V) := [("same", .int n.same), ("out", .int n.out), ("into", .int n.into), ("least", .int n.least), ("part", .int n.part)]
def SameBut (x : Addr) (H H' : Hp) : Prop := ∀ b u, b ≠ x → H b = some u → H' b = some u
/-- terms at x -/
structure TermsAt (H : Hp) (C x : Addr) (n : Nums) (fs : List Form) (dx l d : Addr) (xs : List V) : Prop where
  ob : H x = some (.ins C dx (flds n l d))
  own : H dx = some (.own x)
  li : H l = some (.lst xs)
  tr : Trips H xs fs
  di : H d = some (.dT (fs.map kvOf))
def nearV (H : Hp) (v : V) (xs : List V) (fs : List Form) : Prop := (v = .non ∧ xs = [] ∧ fs = []) ∨ ∃ a, v = .ref a ∧ H a = some (.lst xs) ∧ Trips H xs fs
inductive sp_init (C CT CN : Addr) (vs : List V) (H : Hp) (Q : VK) (E : XK) : Prop
  | mk (x dx : Addr) (n : Nums) (nv : V) (xs : List V) (fs : List Form) (_ : vs = [.ref x, .int n.same, .int n.out, .int n.into, .int n.least, .int n.part, nv]) (_ : H x = some (.ins C dx [])) (_ : H dx = some (.own x)) (_ : nearV H nv xs fs) (_ : Short fs) (_ : (if okNums n = true then (if goodNear fs = true then ∀ H' l d, SameBut x H H' → TermsAt H' C x n fs dx l d xs → H l = none → H d = none → Q .non H' else ∀ H', SameBut x H H' → E (.ref CN) none H') else ∀ H', SameBut x H H' → E (.ref CT) none H')) : sp_init C CT CN vs H Q E
theorem put5 (n : Nums) : putF "part" (.int n.part) (putF "least" (.int n.least) (putF "into" (.int n.into) (putF "out" (.int n.out) (putF "same" (.int n.same) [])))) = flds5 n := by kernel_rfl
theorem put7 (n : Nums) (l d : Addr) : putF "prices" (.ref d) (putF "near" (.ref l) (flds5 n)) = flds n l d := by kernel_rfl
theorem near5 (n : Nums) (l : Addr) : (putF "near" (.ref l) (flds5 n)).lookup ("near" : Str) = some (V.ref l) := by kernel_rfl
theorem SameBut.refl {x : Addr} {H : Hp} : SameBut x H H := fun _ _ _ h => h
theorem SameBut.upd {x : Addr} {H H' : Hp} {o : HO} (s : SameBut x H H') : SameBut x H (upd H' x o) := fun b u n h => by rw [upd_ne n]; exact s b u n h
theorem SameBut.same {x : Addr} {H H' H2 : Hp} (s : SameBut x H H') (t : Same H' H2) : SameBut x H H2 := fun b u n h => t b u (s b u n h)
theorem SameBut.laid {x a : Addr} {H H' : Hp} {o : HO} (s : SameBut x H H') (h : H a = none) : SameBut x H (L2.upd H' a o) := fun b u n e => by rw [upd_ne (ne_of_none e h)]; exact s b u n e
theorem SameBut.free {x l : Addr} {H H' : Hp} {o : HO} (s : SameBut x H H') (hx : H' x = some o) (h : H' l = none) : H l = none := by
  cases e : H l with
  | none => rfl
  | some u =>
    have n : l ≠ x := fun z => by rw [z, hx] at h; cases h
    rw [s l u n e] at h; cases h
theorem Trips.but {x : Addr} {H H' : Hp} {xs : List V} {fs : List Form} {C dx : Addr} {gs : List (Str × V)} (t : Trips H xs fs) (s : SameBut x H H') (hx : H x = some (.ins C dx gs)) : Trips H' xs fs :=
  ⟨t.1, fun i f e => let ⟨b, h1, h2⟩ := t.2 i f e; ⟨b, h1, s _ _ (fun z => by rw [z, hx] at h2; cases h2) h2⟩⟩
/-! which refusal it was -/
def fl (j : Nat) : List V := [.bl (decide (0 = j)), .bl (decide (1 = j)), .bl (decide (2 = j)), .bl (decide (3 = j)), .bl (decide (4 = j)), .bl (decide (5 = j)), .bl (decide (6 = j)), .bl (decide (7 = j)), .bl (decide (8 = j)), .bl (decide (9 = j)), .bl (decide (10 = j)), .bl (decide (11 = j)), .bl (decide (12 = j)), .bl (decide (13 = j))]
def kinds : List Str := ["word", "book", "terms", "near", "way", "name", "year", "taken", "full", "many", "no book", "no finding", "left", "search", "another"]
def kindOf (j : Nat) : Str := kinds.getD j ""
/-- an item of a list of whole numbers -/
theorem int_at (is : List Int) {i : Int} (h0 : 0 ≤ i) (h : i < (is.length : Int)) : ∃ m, m ∈ is ∧ atI (is.map V.int) i = some (.int m) := by
  obtain ⟨j, rfl⟩ := Int.eq_ofNat_of_zero_le h0
  have hj : j < is.length := by omega
  exact ⟨is[j], List.getElem_mem hj, atI_nat (by simp [hj])⟩
theorem l_same (n : Nums) (l d : Addr) : (flds n l d).lookup ("same" : Str) = some (V.int n.same) := by kernel_rfl
theorem l_prices (n : Nums) (l d : Addr) : (flds n l d).lookup ("prices" : Str) = some (V.ref d) := by kernel_rfl
theorem l_pair_worth (n : Nums) (l d : Addr) : (flds n l d).lookup ("pair_worth" : Str) = none := by kernel_rfl
end QF

set_option Elab.async false
set_option linter.all false
set_option maxRecDepth 100000
set_option maxHeartbeats 4000000
namespace L2
open PySem PySem.Spec PyProof.Rows PySem.W PySem.Calls
section
variable {X : Cx}
/-- xs != [] -/
inductive rNeN (K : Frag) (x : V) (y : V) (H : Hp) (Q : VK) : Prop
  | mk (p : _) (q : _) (xs : _) (_ : x = .ref p) (_ : y = .ref q) (_ : SqL K H p xs) (_ : SqL K H q []) (_ : Q (.bl (!xs.isEmpty)) H) : rNeN K x y H Q
theorem op_ne_nilK (K : Frag) (hu : X.A.units < cLine) (hK : X.K = K := by rfl) : OpR X (compareOp .NotEq) (rNeN K) := by
  subst hK
  intro pins s σ H x y v u Q I rx ry h
  obtain ⟨p, q, xs, rfl, rfl, hp, hq, k⟩ := h
  cases rx
  cases ry
  obtain ⟨its, r, pl, hz⟩ := I.list hp
  obtain ⟨its2, r2, pl2, hz2⟩ := I.list hq
  cases r2
  obtain ⟨⟨cls, dd, data, sl⟩, ho, hc, n, hd⟩ := id pl.isList
  obtain ⟨⟨cls2, dd2, data2, sl2⟩, ho2, hc2, n2, hd2⟩ := id pl2.isList
  simp only at hc hd hc2 hd2
  subst hc hd hc2 hd2
  by_cases e : its = []
  · subst e
    cases r
    refine richCompare_meets_room (op := .NotEq) ⟨_, ho, rfl⟩ ⟨_, ho2, rfl⟩ F.slot_list_ne F.entry_list_ne (F.args_list_ne_2 _ _) (SeqAt.list_neAt p q #[] #[] n n2 dd dd2 sl sl2 rfl (fun _ => true)) ⟨ho, ho2, fun j h1 _ => absurd h1 (by simp), ?_⟩ hu
    exact ⟨(fun x => nomatch x), .bl false, H, I, rfl, k⟩
  · have hx : xs ≠ [] := fun z => by subst z; cases r; exact e rfl
    have hsz : (its.toArray.size != (#[] : Array Value).size) = true := by simpa using e
    refine richCompare_meets_room (op := .NotEq) ⟨_, ho, rfl⟩ ⟨_, ho2, rfl⟩ F.slot_list_ne F.entry_list_ne (F.args_list_ne_2 _ _) (SeqAt.list_ne_lengthsAt p q its.toArray #[] n n2 dd dd2 sl sl2 hsz) ⟨ho, ho2, ?_⟩ hu
    have : (!xs.isEmpty) = true := by simpa using hx
    rw [this] at k
    exact ⟨(fun x => nomatch x), .bl true, H, I, rfl, k⟩
end
end L2
namespace QF
open PySem L2
theorem at0 {α : Type} {xs : List α} {i : Nat} {v : α} (h : xs[i]? = some v) : atI xs (0 + (i : Int)) = some v := by
  rw [Int.zero_add]; exact atI_nat h
/-! what pairs are worth -/
def priceOf (fs : List Form) (x y : Str) : Option Int := (fs.find? fun f => decide (f.1 = x ∧ f.2.1 = y)).map (·.2.2)
def pairW (same : Int) (fs : List Form) (x y : Str) : Option Int := if x = y then some same else (priceOf fs x y).map (same - ·)
def optV : Option Int → V
  | none => .non
  | some i => .int i
theorem key2_eq (f : Form) (x y : Str) : key2 f = [.inr x, .inr y] ↔ f.1 = x ∧ f.2.1 = y := by simp [key2]
theorem val_price (x y : Str) : ∀ fs : List Form, valV (fs.map kvOf) [.inr x, .inr y] = (priceOf fs x y).map V.int
  | [] => rfl
  | f :: r => by
    rw [List.map_cons]
    by_cases h : key2 f = [.inr x, .inr y]
    · have h' := (key2_eq f x y).mp h
      rw [valV_pos (show (kvOf f).1 = _ from h)]
      simp [priceOf, List.find?_cons, h'.1, h'.2, kvOf]
    · have h' : ¬ (f.1 = x ∧ f.2.1 = y) := fun z => h ((key2_eq f x y).mpr z)
      rw [valV_neg (show ¬ (kvOf f).1 = _ from h), val_price x y r]
      simp [priceOf, List.find?_cons, h']
inductive sp_pair (C : Addr) (vs : List V) (H : Hp) (Q : VK) (u3 : XK) : Prop
  | mk (t : Addr) (x y : Str) (n : Nums) (fs : List Form) (dx l d : Addr) (xs : List V) (_ : vs = [.ref t, .str x, .str y]) (_ : TermsAt H C t n fs dx l d xs) (_ : ∀ H', Same H H' → Q (optV (pairW n.same fs x y)) H') : sp_pair C vs H Q u3
abbrev abc : Str := Str.ofString "abcdefghijklmnopqrstuvwxyz"
theorem abc_len : abc.length = 26 := by decide +kernel
theorem str_at (zs : List Str) {i : Int} (h0 : 0 ≤ i) (h : i < (zs.length : Int)) : ∃ m, m ∈ zs ∧ atI (zs.map V.str) i = some (.str m) := by
  obtain ⟨j, rfl⟩ := Int.eq_ofNat_of_zero_le h0
  have hj : j < zs.length := by omega
  exact ⟨zs[j], List.getElem_mem hj, atI_nat (by simp [hj])⟩
theorem app_cps (x y : Str) : (x ++ y).cps.toList = x.cps.toList ++ y.cps.toList := by
  show (x.cps ++ y.cps).toList = _
  simp
def Tups (H H' : Hp) : Prop := ∀ t v, H t = some (.tup v) → H' t = some (.tup v)
theorem Tups.same {H H' : Hp} (s : Same H H') : Tups H H' := fun t v h => s _ _ h
theorem Tups.lst {H : Hp} {l : Addr} {xs : List V} {o : HO} (h : H l = some (.lst xs)) : Tups H (upd H l o) := fun t v e => by
  rw [upd_ne (ne_of e h (by intro z; cases z))]; exact e
theorem Trips.tups {H H' : Hp} {xs : List V} {fs : List Form} (T : Trips H xs fs) (k : Tups H H') : Trips H' xs fs := ⟨T.1, fun i f e => let ⟨b, h1, h2⟩ := T.2 i f e; ⟨b, h1, k _ _ h2⟩⟩
theorem Trips.snoc {H : Hp} {xs : List V} {fs : List Form} {t : Addr} {f : Form} (T : Trips H xs fs) (ht : H t = some (.tup (trip f))) : Trips H (xs ++ [.ref t]) (fs ++ [f]) := by
  refine ⟨by simp [T.1], fun i g e => ?_⟩
  by_cases h : i < fs.length
  · rw [List.getElem?_append_left h] at e
    obtain ⟨b, h1, h2⟩ := T.2 i g e
    exact ⟨b, by rw [List.getElem?_append_left (by rw [T.1]; exact h)]; exact h1, h2⟩
  · have hi : i = fs.length := by
      have := (List.getElem?_eq_some_iff.mp e).1
      simp at this
      omega
    subst hi
    have hg : f = g := by simpa using e
    subst hg
    exact ⟨t, by rw [← T.1]; simp, ht⟩
theorem ixN_nat {n j : Nat} (h : j < n) : ixN n (j : Int) = some j := by
  unfold ixN
  rw [if_pos (by omega), if_pos (by omega)]
  simp
end QF

set_option Elab.async false
set_option linter.all false
set_option maxRecDepth 100000
set_option maxHeartbeats 4000000
/-! banks of words, and near forms among them -/
namespace QF
open PySem L2
theorem abc_cps : abc.cps.toList = (List.range 26).map (97 + ·) := by decide +kernel
theorem abc_is {r : Int} : atI abc.cps.toList (r % 26) = some (97 + (r % 26).toNat) := by
  have h0 : 0 ≤ r % 26 := by omega
  have h1 : r % 26 < 26 := by omega
  generalize r % 26 = m at h0 h1
  obtain ⟨j, rfl⟩ := Int.eq_ofNat_of_zero_le h0
  refine atI_nat ?_
  have hj : j < 26 := by omega
  rw [abc_cps]
  simp [hj]
theorem low_abc (r : Int) : low (97 + (r % 26).toNat) = true := by
  have h1 : (r % 26).toNat ≤ 25 := by omega
  simp [low]
  omega
def lows (z : Str) : Prop := z.cps.toList.all low = true
/-- the k-th word of a bank -/
def bankW (stem : Str) (cell other : Int) (k : Nat) : Str :=
  let size := 1 + cell / 2 % 12
  if cell % 2 = 1 then Txt.slice stem none (some (1 + (size + k) % 12))
  else Txt.slice stem none (some (other % size)) ++ ⟨#[97 + ((other / 12 + k) % 26).toNat]⟩ ++ Txt.slice stem (some (other % size + 1)) (some size)
theorem sIx_pos {n d : Nat} {v : Int} (h0 : 0 ≤ v) (h : v ≤ n) : HT.sIx n d (some v) = v.toNat := by
  simp only [HT.sIx]
  split <;> omega
theorem slice_to {z : Str} {v : Int} (h0 : 0 ≤ v) (h : v ≤ z.length) : (Txt.slice z none (some v)).cps.toList = z.cps.toList.take v.toNat := by
  rw [slice_cps, sIx_pos h0 h, HT.sIx_none]
  simp
theorem slice_in {z : Str} {u v : Int} (h0 : 0 ≤ u) (h1 : u ≤ v) (h : v ≤ z.length) : (Txt.slice z (some u) (some v)).cps.toList = (z.cps.toList.drop u.toNat).take (v.toNat - u.toNat) := by
  rw [slice_cps, sIx_pos h0 (by omega), sIx_pos (by omega) h]
theorem len_list (z : Str) : z.cps.toList.length = z.length := by simp [Str.length]
theorem isW_of {z : Str} (h1 : 1 ≤ z.length) (h2 : z.length ≤ 12) (h : lows z) : isW z = true := by
  have h : z.cps.toList.all low = true := h
  simp [isW, h1, h2, h]
theorem bank_isW {stem : Str} (hl : stem.length = 12) (hs : lows stem) (cell other : Int) (k : Nat) : isW (bankW stem cell other k) = true := by
  have hs' := List.all_eq_true.mp hs
  have hll := len_list stem
  have z0 : 1 ≤ 1 + cell / 2 % 12 ∧ 1 + cell / 2 % 12 ≤ 12 := by omega
  unfold bankW
  simp only
  generalize 1 + cell / 2 % 12 = size at z0
  split
  · have z1 : 1 ≤ 1 + (size + (k : Int)) % 12 ∧ 1 + (size + (k : Int)) % 12 ≤ 12 := by omega
    generalize 1 + (size + (k : Int)) % 12 = m at z1
    have e := slice_to (z := stem) (v := m) (by omega) (by omega)
    have el : (Txt.slice stem none (some m)).length = m.toNat := by rw [← len_list, e, List.length_take, hll]; omega
    refine isW_of (by omega) (by omega) ?_
    unfold lows
    rw [e, List.all_eq_true]
    exact fun c hc => hs' c (List.mem_of_mem_take hc)
  · have z1 : 0 ≤ other % size ∧ other % size < size := ⟨Int.emod_nonneg _ (by omega), Int.emod_lt_of_pos _ (by omega)⟩
    generalize other % size = spot at z1
    have e1 := slice_to (z := stem) (v := spot) (by omega) (by omega)
    have e2 := slice_in (z := stem) (u := spot + 1) (v := size) (by omega) (by omega) (by omega)
    have l1 : (Txt.slice stem none (some spot)).length = spot.toNat := by rw [← len_list, e1, List.length_take, hll]; omega
    have l2 : (Txt.slice stem (some (spot + 1)) (some size)).length = size.toNat - (spot + 1).toNat := by rw [← len_list, e2, List.length_take, List.length_drop, hll]; omega
    have el : (Txt.slice stem none (some spot) ++ (⟨#[97 + ((other / 12 + (k : Int)) % 26).toNat]⟩ : Str) ++ Txt.slice stem (some (spot + 1)) (some size)).length = size.toNat := by
      rw [len_app, len_app, l1, l2]
      show spot.toNat + 1 + _ = _
      omega
    refine isW_of (by omega) (by omega) ?_
    unfold lows
    rw [app_cps, app_cps, e1, e2, List.all_append, List.all_append]
    have a1 : (stem.cps.toList.take spot.toNat).all low = true := List.all_eq_true.mpr fun c hc => hs' c (List.mem_of_mem_take hc)
    have a2 : ((stem.cps.toList.drop (spot + 1).toNat).take (size.toNat - (spot + 1).toNat)).all low = true := List.all_eq_true.mpr fun c hc => hs' c (List.mem_of_mem_drop (List.mem_of_mem_take hc))
    have a3 := low_abc (other / 12 + (k : Int))
    rw [a1, a2]
    simp [a3]
theorem mid_at {A B : List Nat} {c : Nat} : (A ++ [c] ++ B)[A.length]? = some c := by simp
theorem bank_inj {stem : Str} (hl : stem.length = 12) (cell other : Int) {k k' : Nat} (hk : k < 12) (hk' : k' < 12) (e : bankW stem cell other k = bankW stem cell other k') : k = k' := by
  have hll := len_list stem
  have z0 : 1 ≤ 1 + cell / 2 % 12 ∧ 1 + cell / 2 % 12 ≤ 12 := by omega
  unfold bankW at e
  simp only at e
  generalize 1 + cell / 2 % 12 = size at z0 e
  split at e
  · have e := congrArg (fun z : Str => z.cps.toList.length) e
    rw [slice_to (by omega) (by omega), slice_to (by omega) (by omega), List.length_take, List.length_take, hll, hl] at e
    omega
  · have z1 : 0 ≤ other % size ∧ other % size < size := ⟨Int.emod_nonneg _ (by omega), Int.emod_lt_of_pos _ (by omega)⟩
    generalize other % size = spot at z1 e
    have e1 := slice_to (z := stem) (v := spot) (by omega) (by omega)
    have l1 : (stem.cps.toList.take spot.toNat).length = spot.toNat := by rw [List.length_take, hll]; omega
    have at_ : ∀ c : Nat, (Txt.slice stem none (some spot) ++ (⟨#[c]⟩ : Str) ++ Txt.slice stem (some (spot + 1)) (some size)).cps.toList[spot.toNat]? = some c := fun c => by
      rw [app_cps, app_cps, e1]
      have := mid_at (A := stem.cps.toList.take spot.toNat) (B := (Txt.slice stem (some (spot + 1)) (some size)).cps.toList) (c := c)
      rw [l1] at this
      exact this
    have e := congrArg (fun z : Str => z.cps.toList[spot.toNat]?) e
    have e2 := (at_ _).symm.trans (e.trans (at_ _))
    have e3 := Option.some.inj e2
    omega
/-- different words -/
theorem bank_nodup {stem : Str} (hl : stem.length = 12) (cell other : Int) {n : Nat} (hn : n ≤ 12) : ((List.range n).map (bankW stem cell other)).Nodup := by
  refine List.pairwise_map.mpr ?_
  refine List.Pairwise.imp_of_mem (R := fun a b => a ≠ b) (fun {a b} ha hb h e => h ?_) List.nodup_range
  exact bank_inj hl cell other (by have := List.mem_range.mp ha; omega) (by have := List.mem_range.mp hb; omega) e
inductive sp_bank (vs : List V) (H : Hp) (Q : VK) (u3 : XK) : Prop
  | mk (cell other many : Int) (_ : vs = [.int cell, .int other, .int many]) (_ : 0 ≤ many) (_ : many ≤ 12) (_ : ∀ H' b (zs : List Str), Same H H' → H b = none → H' b = some (.lst (zs.map V.str)) → zs.length = many.toNat → (∀ z ∈ zs, isW z = true) → zs.Nodup → Q (.ref b) H') : sp_bank  vs H Q u3
/-! near forms among words -/
structure PairInv (zs : List Str) (i j : Nat) (fs : List Form) : Prop where
  ok : ∀ f ∈ fs, fOk f = true
  nd : (fs.map key2).Nodup
  old : ∀ f ∈ fs, ∃ i' j', (i' < i ∨ (i' = i ∧ j' < j)) ∧ zs[i']? = some f.1 ∧ zs[j']? = some f.2.1
  few : fs.length + (if i < j then 1 else 0) ≤ i * (zs.length - 1) + j
theorem PairInv.nil {zs : List Str} : PairInv zs 0 0 [] := ⟨by simp, by simp, by simp, by simp⟩
theorem PairInv.skip {zs : List Str} {i j : Nat} {fs : List Form} (p : PairInv zs i j fs) : PairInv zs i (j + 1) fs := by
  refine ⟨p.ok, p.nd, fun f hf => ?_, ?_⟩
  · obtain ⟨i', j', h, r⟩ := p.old f hf
    exact ⟨i', j', by omega, r⟩
  · have := p.few
    split <;> split at this <;> omega
theorem nodup_at {zs : List Str} (hn : zs.Nodup) {i j : Nat} {x : Str} (h1 : zs[i]? = some x) (h2 : zs[j]? = some x) : i = j := by
  obtain ⟨a1, b1⟩ := List.getElem?_eq_some_iff.mp h1
  obtain ⟨a2, b2⟩ := List.getElem?_eq_some_iff.mp h2
  exact (List.getElem_inj hn).mp (b1.trans b2.symm)
theorem PairInv.add {zs : List Str} {i j : Nat} {fs : List Form} (p : PairInv zs i j fs) (hn : zs.Nodup) (hw : ∀ z ∈ zs, isW z = true) {x y : Str} (hx : zs[i]? = some x) (hy : zs[j]? = some y) (hne : ¬ x = y) {pr : Int} (h0 : 0 ≤ pr) (h1 : pr ≤ 999999) :
    PairInv zs i (j + 1) (fs ++ [(x, y, pr)]) := by
  have hij : i ≠ j := fun e => hne (by subst e; rw [hx] at hy; exact Option.some.inj hy)
  refine ⟨fun f hf => ?_, ?_, fun f hf => ?_, ?_⟩
  · rcases List.mem_append.mp hf with h | h
    · exact p.ok f h
    · have h : f = (x, y, pr) := by simpa using h
      rw [h]
      have a1 := hw x (List.mem_of_getElem? hx)
      have a2 := hw y (List.mem_of_getElem? hy)
      simp [fOk, formOk, a1, a2, hne, inR, h0, h1]
  · rw [List.map_append]
    refine List.nodup_append.mpr ⟨p.nd, by simp, fun a ha b hb e => ?_⟩
    have hb : b = key2 (x, y, pr) := by simpa using hb
    rw [e, hb] at ha
    obtain ⟨f, hf, ef⟩ := List.mem_map.mp ha
    obtain ⟨e1, e2⟩ := (key2_eq f x y).mp ef
    obtain ⟨i', j', h, r1, r2⟩ := p.old f hf
    rw [e1] at r1
    rw [e2] at r2
    have := nodup_at hn r1 hx
    have := nodup_at hn r2 hy
    omega
  · rcases List.mem_append.mp hf with h | h
    · obtain ⟨i', j', h, r⟩ := p.old f h
      exact ⟨i', j', by omega, r⟩
    · have h : f = (x, y, pr) := by simpa using h
      rw [h]
      exact ⟨i, j, by omega, hx, hy⟩
  · have := p.few
    rw [List.length_append]
    show fs.length + 1 + _ ≤ _
    split <;> split at this <;> omega
theorem PairInv.row {zs : List Str} {i : Nat} {fs : List Form} (p : PairInv zs i zs.length fs) (hi : i < zs.length) : PairInv zs (i + 1) 0 fs := by
  refine ⟨p.ok, p.nd, fun f hf => ?_, ?_⟩
  · obtain ⟨i', j', h, r⟩ := p.old f hf
    exact ⟨i', j', by omega, r⟩
  · have h := p.few
    rw [if_pos hi] at h
    rw [if_neg (by omega), Nat.succ_mul]
    omega
theorem PairInv.good {zs : List Str} {fs : List Form} (p : PairInv zs zs.length 0 fs) (h : zs.length ≤ 8) : goodNear fs = true := by
  have h1 := p.few
  have h2 : zs.length * (zs.length - 1) ≤ 8 * 7 := Nat.mul_le_mul h (by omega)
  rw [if_neg (by omega)] at h1
  have h3 : fs.length ≤ 60 := by omega
  have h4 : fs.all fOk = true := List.all_eq_true.mpr p.ok
  simp [goodNear, h3, h4, p.nd]
theorem good_short {fs : List Form} (h : goodNear fs = true) : Short fs := by
  simp only [goodNear, Bool.and_eq_true, decide_eq_true_eq, List.all_eq_true] at h
  refine ⟨by omega, fun f hf => ?_⟩
  have h1 := h.1.2 f hf
  simp only [fOk, formOk, isW, Bool.and_eq_true, decide_eq_true_eq] at h1
  omega
inductive sp_near (vs : List V) (H : Hp) (Q : VK) (u3 : XK) : Prop
  | mk (cell same : Int) (b : Addr) (zs : List Str) (_ : vs = [.int cell, .ref b, .int same]) (_ : H b = some (.lst (zs.map V.str))) (_ : zs.length ≤ 8) (_ : (∀ z ∈ zs, isW z = true)) (_ : zs.Nodup) (_ : 1 ≤ same) (_ : same ≤ 999999) (_ : ∀ H' l xs fs, Same H H' → H l = none → H' l = some (.lst xs) → Trips H' xs fs → goodNear fs = true → Q (.ref l) H') : sp_near  vs H Q u3
theorem word_at {zs : List Str} {i : Nat} {v : V} (h : (zs.map V.str)[i]? = some v) : ∃ x, zs[i]? = some x ∧ v = .str x := by
  rw [List.getElem?_map] at h
  cases e : zs[i]? with
  | none => rw [e] at h; cases h
  | some x => rw [e] at h; exact ⟨x, rfl, (Option.some.inj h).symm⟩
theorem inV_str (w : Str) (zs : List Str) : inV (.str w) (zs.map V.str) = decide (w ∈ zs) := by
  unfold inV
  rw [Bool.eq_iff_iff]
  simp [eqV]
end QF

set_option Elab.async false
set_option linter.all false
set_option maxRecDepth 100000
set_option maxHeartbeats 4000000
/-! terms that are turned -/
namespace QF
open PySem L2
theorem TermsAt.same {H H' : Hp} {C x : Addr} {n : Nums} {fs : List Form} {dx l d : Addr} {xs : List V} (T : TermsAt H C x n fs dx l d xs) (s : Same H H') : TermsAt H' C x n fs dx l d xs := ⟨s _ _ T.ob, s _ _ T.own, s _ _ T.li, T.tr.same s, s _ _ T.di⟩
/-- within what the object's making leaves as it was -/
theorem SameBut.of_new {x dx C : Addr} {H H' : Hp} (hx : H x = none) (hdx : H dx = none) (s : SameBut x (L2.upd (L2.upd H dx (.own x)) x (.ins C dx [])) H') : Same H H' := fun b u e => by
  have n1 : b ≠ x := ne_of_none e hx
  have n2 : b ≠ dx := ne_of_none e hdx
  exact s b u n1 (by rw [upd_ne n1, upd_ne n2]; exact e)
end QF

set_option Elab.async false
set_option linter.all false
set_option maxRecDepth 100000
set_option maxHeartbeats 4000000
namespace L2
open PySem PySem.Spec PyProof.Rows PySem.W PySem.Calls

/-! ### several records of ours have turned; a new thing of theirs is taken in -/
section
variable {X : Cx} {pins : List (Addr × Obj)} {σ : St} {H : Hp} {s : Shared} {h' : Heap}
theorem Inv.turnedL {t' : Nat} {fp : List Addr} (I : Inv X pins σ H s) (hf : ∀ b ∈ fp, FpOk X pins H b) (k : ∀ b o, b ∉ fp → s.heap.get? b = some o → h'.get? b = some o) : Inv X pins σ H { s with heap := h', toks := t' } := by
  have nit : ∀ b u, H b = some u → b ∉ fp := fun b u e z => by rw [(hf b z).1] at e; cases e
  refine I.step (g' := s.gens) (d' := s.drawn) (ch := fp) (fun b hb => ?_) (fun b o _ _ hc e _ => k b o hc e) (fun b o _ _ hc e _ => ⟨o.slots, k b o hc e⟩) (fun _ _ _ _ n => n)
    (fun b o hc e => ⟨o, k b o hc e⟩) (fun _ _ e => e) (fun _ _ _ e => e) (fun b ps e => ⟨#[], by rw [e]; simp⟩) (fun m hm => ?_) (fun b u e => ?_) I.bare
  · obtain ⟨_, f1, _, f3, f4, f5⟩ := hf b hb
    exact ⟨f3, f1, f4, f5⟩
  · obtain ⟨o, es, ep, ho, r⟩ := hm
    exact ⟨o, es, ep, k _ o (fun z => (hf _ z).2.1 rfl) ho, r⟩
  · refine (I.hok b u e).stay (fun c v hc q => k c v ?_ q) (fun _ q => q) fun _ _ q => q
    rcases hc with z | z
    · rw [z]; exact nit b u e
    · exact nit c _ z
theorem Inv.turnedT {t' : Nat} {fp : List Addr} {T : Addr} {u : HO} (I : Inv X pins σ H s) (hf : ∀ b ∈ fp, FpOk X pins H b) (hT : FpOk X pins H T) (k : ∀ b o, b ∉ fp → s.heap.get? b = some o → h'.get? b = some o)
    (new : ObjOk X.prog X.w (upd H T u) h' T u) : Inv X pins σ (upd H T u) { s with heap := h', toks := t' } := by
  have nit : ∀ b u, H b = some u → b ∉ fp := fun b u e z => by rw [(hf b z).1] at e; cases e
  have nT : ∀ b v, H b = some v → b ≠ T := fun b v e z => by rw [z, hT.1] at e; cases e
  refine I.step (g' := s.gens) (d' := s.drawn) (ch := T :: fp) (fun b hb => ?_) (fun b o _ _ hc e _ => k b o (fun z => hc (List.mem_cons_of_mem _ z)) e) (fun b o _ _ hc e _ => ⟨o.slots, k b o (fun z => hc (List.mem_cons_of_mem _ z)) e⟩) (fun b _ hc _ n => ?_)
    (fun b o hc e => ⟨o, k b o (fun z => hc (List.mem_cons_of_mem _ z)) e⟩) (fun b xs e => by rw [upd_ne (nT b _ e)]; exact e) (fun b o v e => by rw [upd_ne (nT b _ e)]; exact e) (fun b ps e => ⟨#[], by rw [upd_ne (nT b _ e), e]; simp⟩) (fun m hm => ?_) (fun b v e => ?_) I.bare
  · rcases List.mem_cons.mp hb with z | z
    · subst z
      obtain ⟨_, f1, _, f3, f4, f5⟩ := hT
      exact ⟨f3, f1, f4, f5⟩
    · obtain ⟨_, f1, _, f3, f4, f5⟩ := hf b z
      exact ⟨f3, f1, f4, f5⟩
  · rw [upd_ne (fun z => hc (by simp [z]))]; exact n
  · obtain ⟨o, es, ep, ho, r⟩ := hm
    exact ⟨o, es, ep, k _ o (fun z => (hf _ z).2.1 rfl) ho, r⟩
  · by_cases hb : b = T
    · subst hb; rw [upd_same] at e; cases e; exact new
    · rw [upd_ne hb] at e
      refine (I.hok b v e).stay (fun c v' hc q => k c v' ?_ q) (fun c q => by rw [upd_ne (nT c _ q)]; exact q) fun c xs q => by rw [upd_ne (nT c _ q)]; exact q
      rcases hc with z | z
      · rw [z]; exact nit b v e
      · exact nit c _ z
end

/-! ### enumerate -/
def Ite (K : Frag) (a : Addr) : It :=
  ⟨fun i H => ∃ xs x, SqL K H a xs ∧ xs[i]? = some x, fun i H x H' => ∃ T y, x = .ref T ∧ H T = none ∧ H' = upd H T (.tup [.int i, y]) ∧ ∀ xs, SqL K H a xs → xs[i]? = some y, fun i H => ∃ xs, SqL K H a xs ∧ xs.length ≤ i⟩
theorem turn_enum {P : Program} {w : World} {K : Frag} {elts : List Expr} {n : Nat} {pos : Pos} (a e it : Addr) (hne : e ≠ it) :
    Turn P w K (.Tuple elts n pos) (Ite K a) [e, it] e (fun i h => (∃ old, IsEnum h e it (i : Nat) old) ∧ h.IsListIter it a i) where
  mem := by simp
  obj := fun i h st b hb => by
    obtain ⟨⟨old, s1⟩, o, s2, _, s3⟩ := st
    rcases List.mem_cons.mp hb with z | z
    · subst z; exact ⟨_, s1, fun v z => by
        have z' : Data.fields _ = Data.cell v := z
        cases z'⟩
    · have e : b = it := by simpa using z
      subst e
      exact ⟨o, s2, fun v z => by rw [s3] at z; cases z⟩
  keep := fun i h h' st k => ⟨⟨st.1.choose, k e (by simp) _ st.1.choose_spec⟩, st.2.at fun o q => k it (by simp) o q⟩
  item := by
    intro X hP hw hK hc i pins s σ H E I hf st hg
    subst hP hw hK
    obtain ⟨xs, x, hq, hx⟩ := hg
    obtain ⟨⟨old, s1⟩, s2⟩ := st
    obtain ⟨its, rv, p, hz⟩ := I.list hq
    obtain ⟨u, hu, ru⟩ := rv.get hx
    refine wpAny_pyNext_enum_item s1 s2 p.isList (x := u) (by simpa using hu) hne fun h' o1 o2 o3 o4 o5 => ?_
    refine ⟨_, rfl, wpAny_letOwnedTupleGo_enum (s := { s with heap := h', toks := s.toks + 1 }) o1 fun h2 q1 q2 => ?_⟩
    have hl2 : h2.get? s.heap.objs.size = some { cls := Value.type "tuple", data := Data.seq #[Value.int (↑i) s.toks, u] } := by
      exact (q2.2 _ (Nat.ne_of_gt (Heap.lt_size s1))).trans o3
    have hT : FpOk X pins H s.heap.objs.size := I.fpOk (Nat.le_refl _) (I.hok.fresh (Nat.le_refl _))
    have I1 : Inv X pins σ (upd H s.heap.objs.size (.tup [.int i, x])) { s with heap := h2, toks := s.toks + 1 } := by
      refine I.turnedT hf hT (fun b o hb q => ?_) ⟨by simp [sizeLine], [Value.int (↑i) s.toks, u], .cons ⟨_, rfl⟩ (.cons ru .nil), ?_⟩
      · have b1 : b ≠ e := fun z => hb (by simp [z])
        have b2 : b ≠ it := fun z => hb (by simp [z])
        exact (q2.2 b b1).trans (o5 b o b1 b2 q)
      · exact ⟨_, hl2, rfl, _, rfl⟩
    refine ⟨.ref s.heap.objs.size, _, I1, rfl, ⟨_, x, rfl, hT.1, rfl, fun ys hy => by rw [I.list_inj hy hq]; exact hx⟩, ⟨⟨u, by simpa using q1⟩, o2.at fun o q => (q2.2 it (Ne.symm hne)).trans q⟩, fun b hb => ?_⟩
    rw [upd_ne (fun z => ?_)]
    · exact (hf b hb).1
    · have h1 := Heap.lt_size s1
      obtain ⟨_, h2, _⟩ := s2
      have h3 := Heap.lt_size h2
      rcases List.mem_cons.mp hb with y | y
      · rw [z.symm.trans y] at h1; exact absurd h1 (Nat.lt_irrefl _)
      · have : b = it := by simpa using y
        rw [z.symm.trans this] at h3; exact absurd h3 (Nat.lt_irrefl _)
  done := by
    intro X hP hw hK hc i pins s σ H E I hf st hg
    subst hP hw hK
    obtain ⟨xs, hq, hx⟩ := hg
    obtain ⟨⟨old, s1⟩, s2⟩ := st
    obtain ⟨its, rv, p, hz⟩ := I.list hq
    have hl := rv.length
    exact wpAny_pyNext_enum_end (I.ok.hd hc) s1 s2 p.isList (by simp; omega) fun h' eb => ⟨rfl, I.turnedL (t' := s.toks) hf (fun b o hb q => eb b o (fun z => hb (by simp [z])) q)⟩
  self := fun _ _ _ _ _ st h => wpAny_pyIter_enum st.1.choose_spec h
section
variable {X : Cx} {tg : Expr}
def iEnum (K : Frag) (ta : TA) : TI := fun σ H R => ta σ H fun vs H1 => ∃ a, vs = [.ref a] ∧ (∃ xs, SqL K H1 a xs) ∧ R (Ite K a) H1
theorem pi_enum {elts : List Expr} {n : Nat} {tp : Pos} {a : Expr} {ta : TA} {p pos : Pos} (hg : Gl X "enumerate") (hm : X.mg "enumerate" = none) (ha : PA X [a] ta) (hs : starEach [a] X.env = [(false, eval a X.env)] := by rfl) :
    PI X (.Tuple elts n tp) (.Call (.Name "enumerate" p) [a] [] pos) (iEnum X.K ta) := by
  intro pins s σ H R I h
  refine Call_ (ld_blt I hg hm boot_enumerate (PyProof.Rows.callWith_type1 (thn (ha pos pins s σ H _ I h) fun us s1 ⟨vs, H1, I1, r1, q1⟩ => ?_) hs rfl))
  obtain ⟨l, e, ⟨xs, hq⟩, q⟩ := q1
  subst e
  cases r1 with
  | cons r rr =>
    cases rr
    cases r
    obtain ⟨its, rv, p, hz⟩ := I1.list hq
    refine call_enumerate_list p.isList fun h' o1 o2 o3 o4 => ?_
    refine wpAny_pyIter_enum (s := { s1 with heap := h' }) o1 ?_
    refine ⟨s1.heap.objs.size + 1, [s1.heap.objs.size + 1, s1.heap.objs.size], _, _, H1, rfl, I1.kept (t' := s1.toks) o4, turn_enum l _ _ (Nat.succ_ne_self _), ⟨⟨_, o1⟩, o2⟩, fun b hb => ?_, q⟩
    have hb' : s1.heap.objs.size ≤ b := by
      rcases List.mem_cons.mp hb with y | y
      · rw [y]; exact Nat.le_succ _
      · have : b = s1.heap.objs.size := by simpa using y
        exact Nat.le_of_eq this.symm
    exact I1.fpOk hb' (I1.hok.fresh hb')
end
theorem pi_enumK {X : Cx} (K : Frag) {elts : List Expr} {n : Nat} {tp : Pos} {a : Expr} {ta : TA} {p pos : Pos} (hg : Gl X "enumerate") (hm : X.mg "enumerate" = none) (ha : PA X [a] ta) (hs : starEach [a] X.env = [(false, eval a X.env)] := by rfl) (h : X.K = K := by rfl) :
    PI X (.Tuple elts n tp) (.Call (.Name "enumerate" p) [a] [] pos) (iEnum K ta) := h ▸ pi_enum hg hm ha hs
/-- over enumerate(xs) -/
theorem for_enum {K : Frag} {a : Addr} {xs : List V} {g : TG} {tb : TS} {D : Ends} {σ : St} {H : Hp} (Pv : Nat → St → Hp → Prop) (h0 : Pv 0 σ H) (hl : ∀ i σ H, i ≤ xs.length → Pv i σ H → SqL K H a xs)
    (hs : ∀ i x T σ H, xs[i]? = some x → Pv i σ H → H T = none → g (.ref T) σ (upd H T (.tup [.int i, x])) fun σ2 H2 => tb { D with nx := Pv (i + 1), ct := Pv (i + 1), bk := D.nx } σ2 H2) (hd : ∀ σ H, Pv xs.length σ H → D.nx σ H) :
    ∃ W : Nat → Nat → St → Hp → Prop, (∃ m, W 0 m σ H) ∧ ∀ i m σ H, W i m σ H →
      ((Ite K a).stop i H ∧ D.nx σ H) ∨ ((Ite K a).go i H ∧ ∃ N : St → Hp → Prop, (∀ σ' H', N σ' H' → ∃ m', m' < m ∧ W (i + 1) m' σ' H') ∧ ∀ x H', (Ite K a).yld i H x H' → g x σ H' fun σ2 H2 => tb { D with nx := N, ct := N, bk := D.nx } σ2 H2) := by
  refine ⟨fun i m σ H => m = xs.length - i ∧ i ≤ xs.length ∧ Pv i σ H, ⟨xs.length, by simp, Nat.zero_le _, h0⟩, ?_⟩
  rintro i m σ H ⟨rfl, hi, p⟩
  have hq := hl i σ H hi p
  by_cases hlt : i < xs.length
  · refine .inr ⟨⟨xs, xs[i], hq, by simp [hlt]⟩, Pv (i + 1), fun σ' H' p' => ⟨xs.length - (i + 1), by omega, rfl, hlt, p'⟩, fun x H' y => ?_⟩
    obtain ⟨T, y, rfl, hT, rfl, hy⟩ := y
    exact hs i y T σ H (hy xs hq) p hT
  · have e : i = xs.length := by omega
    subst e
    exact .inl ⟨⟨xs, hq, Nat.le_refl _⟩, hd σ H p⟩

/-! ### the keys of a dict -/
section
variable {X : Cx} {tg : Expr}
end
end L2

set_option Elab.async false
set_option linter.all false
set_option maxRecDepth 100000
set_option maxHeartbeats 4000000
/-! places of words -/
namespace QF
open PySem L2
theorem strs_flat (ws : List Str) : (ws.map V.str).all flatV = true := by
  rw [List.all_eq_true]
  intro x hx
  obtain ⟨z, _, rfl⟩ := List.mem_map.mp hx
  rfl

inductive sp_book (K : W.Frag) (vs : List V) (H : Hp) (Q : VK) (u3 : XK) : Prop
  | mk (a b : Addr) (ns : List Int) (zs : List Str) (c p m : Int) (_ : vs = [.ref a, .int c, .int p, .int m, .ref b]) (_ : SqL K H a (ns.map V.int)) (_ : H b = some (.lst (zs.map V.str))) (_ : (1 ≤ zs.length ∧ zs.length ≤ 1000)) (_ : 0 ≤ p) (_ : 0 ≤ m) (_ : m ≤ 1000) (_ : ∀ H' l (ws : List Str), Same H H' → H l = none → H' l = some (.lst (ws.map V.str)) → ws.length = m.toNat → (∀ w ∈ ws, w ∈ zs) → Q (.ref l) H') : sp_book K vs H Q u3
inductive sp_texts (vs : List V) (H : Hp) (Q : VK) (u3 : XK) : Prop
  | mk (a b : Addr) (ws : List Str) (_ : vs = [.ref a, .ref b]) (_ : H a = some (.lst (ws.map V.str))) (_ : H b = some (.lst (ws.map V.str))) (_ : ws.length ≤ 1000) (_ : Q (.bl true) H) : sp_texts  vs H Q u3
end QF

set_option Elab.async false
set_option linter.all false
set_option maxRecDepth 100000
set_option maxHeartbeats 4000000
namespace L2
open PySem PySem.Spec PyProof.Rows PySem.W PySem.Calls
section
variable {X : Cx}
end
end L2
namespace QF
open PySem L2
/-! how a text is read -/
def cap (c : Nat) : Bool := decide (65 ≤ c) && decide (c ≤ 90)
def conv (c : Nat) : Nat := if low c = true then c else if cap c = true then c + 32 else 32
/-! how many, how long -/
/-! the law's own reading -/
def rd (st : KWd.St) (cs : List Nat) : KWd.St := (cs.map conv).foldl KWd.step st
abbrev both : Str := Str.ofString "abcdefghijklmnopqrstuvwxyzABCDEFGHIJKLMNOPQRSTUVWXYZ"
abbrev marks : Str := Str.ofString " .,-'0123456789!?()[]{}@`_~/:;<=>#$&*+|^\\\""
end QF

set_option Elab.async false
set_option linter.all false
set_option maxRecDepth 100000
set_option maxHeartbeats 4000000
/-! lists: insert, == and != -/
namespace L2
open PySem PySem.Spec PyProof.Rows PySem.W PySem.Calls
section
variable {X : Cx}
/-- the items of two lists, one by one: both flat, or one and the same -/
def EqF (xs ys : List V) (f : Nat → Bool) : Prop := ∀ (j : Nat) (x y : V), xs[j]? = some x → ys[j]? = some y → (flatV x = true ∧ flatV y = true ∧ f j = eqV x y) ∨ (∃ a, x = .ref a ∧ y = .ref a ∧ f j = true)
theorem eqF_at {A : Around} {s : Shared} {xs ys : List V} {its its2 : List Value} {f : Nat → Bool} (r : Vals xs its) (r2 : Vals ys its2) (h : EqF xs ys f) :
    ∀ j (h1 : j < its.toArray.size) (h2 : j < its2.toArray.size), SeqAt.EqAt A s its.toArray[j] its2.toArray[j] (f j) := fun j h1 h2 => by
  have h1' : j < xs.length := by have := r.length; simp at h1; omega
  have h2' : j < ys.length := by have := r2.length; simp at h2; omega
  obtain ⟨a1, e1, q1⟩ := r.get (i := j) (x := xs[j]) (by simp [h1'])
  obtain ⟨a2, e2, q2⟩ := r2.get (i := j) (x := ys[j]) (by simp [h2'])
  have g1 : its.toArray[j] = a1 := by simpa [List.getElem?_eq_some_iff] using (List.getElem?_eq_some_iff.mp e1).2
  have g2 : its2.toArray[j] = a2 := by simpa [List.getElem?_eq_some_iff] using (List.getElem?_eq_some_iff.mp e2).2
  rw [g1, g2]
  rcases h j xs[j] ys[j] (by simp [h1']) (by simp [h2']) with ⟨f1, f2, ef⟩ | ⟨a, ex, ey, ef⟩
  · rw [ef]; exact eqAt_V q1 q2 f1 f2
  · rw [ef]
    rw [ex] at q1
    rw [ey] at q2
    cases q1
    cases q2
    exact SeqAt.EqAt.same _
end
end L2
namespace L2
open PySem PySem.Spec PyProof.Rows PySem.W PySem.Calls
section
variable {X : Cx}
end
end L2

set_option Elab.async false
set_option linter.all false
set_option maxRecDepth 100000
set_option maxHeartbeats 4000000
/-! cases, pairs, ways -/
namespace QF
open PySem L2
abbrev Pr := Int × Int
def prV (p : Pr) : List V := [.int p.1, .int p.2]
def Prs (H : Hp) (vs : List V) (ps : List Pr) : Prop := vs.length = ps.length ∧ ∀ (i : Nat) (p : Pr), ps[i]? = some p → ∃ t, vs[i]? = some (V.ref t) ∧ H t = some (.tup (prV p))
theorem Prs.nil {H : Hp} : Prs H [] [] := ⟨rfl, fun i f e => by simp at e⟩
theorem Prs.tups {H H' : Hp} {xs : List V} {fs : List Pr} (T : Prs H xs fs) (k : Tups H H') : Prs H' xs fs := ⟨T.1, fun i f e => let ⟨b, h1, h2⟩ := T.2 i f e; ⟨b, h1, k _ _ h2⟩⟩
theorem Prs.same {H H' : Hp} {xs : List V} {fs : List Pr} (t : Prs H xs fs) (s : Same H H') : Prs H' xs fs := t.tups (Tups.same s)
theorem Prs.append {H : Hp} {xs ys : List V} {fs gs : List Pr} (T : Prs H xs fs) (U : Prs H ys gs) : Prs H (xs ++ ys) (fs ++ gs) := by
  refine ⟨by simp [T.1, U.1], fun i p e => ?_⟩
  by_cases h : i < fs.length
  · rw [List.getElem?_append_left h] at e
    obtain ⟨b, h1, h2⟩ := T.2 i p e
    exact ⟨b, by rw [List.getElem?_append_left (by rw [T.1]; exact h)]; exact h1, h2⟩
  · rw [List.getElem?_append_right (by omega)] at e
    obtain ⟨b, h1, h2⟩ := U.2 _ p e
    exact ⟨b, by rw [List.getElem?_append_right (by rw [T.1]; omega), T.1]; exact h1, h2⟩
theorem Prs.one {H : Hp} {t : Addr} {p : Pr} (ht : H t = some (.tup (prV p))) : Prs H [.ref t] [p] := by
  refine ⟨rfl, fun i q e => ?_⟩
  match i, e with
  | 0, e => cases e; exact ⟨t, rfl, ht⟩
  | i + 1, e => simp at e
theorem Prs.snoc {H : Hp} {xs : List V} {fs : List Pr} {t : Addr} {f : Pr} (T : Prs H xs fs) (ht : H t = some (.tup (prV f))) : Prs H (xs ++ [.ref t]) (fs ++ [f]) := T.append (.one ht)
/-- the k-th pair -/
def pr (ps : List Pr) (k : Nat) : Pr := ps.getD k (0, 0)
theorem pr_at {ps : List Pr} {k : Nat} (h : k < ps.length) : ps[k]? = some (pr ps k) := by
  simp [pr, h]
theorem Prs.atN {H : Hp} {xs : List V} {ps : List Pr} (T : Prs H xs ps) {k : Nat} (h : k < ps.length) : ∃ t, xs[k]? = some (V.ref t) ∧ H t = some (.tup [.int (pr ps k).1, .int (pr ps k).2]) := T.2 k _ (pr_at h)
structure Case where
  xs : List Str
  ys : List Str
  same : Int
  out : Int
  into : Int
  least : Int
  fs : List Form
def wd (xs : List Str) (i : Int) : Option Str := if 0 ≤ i then xs[i.toNat]? else none
def Case.pw (c : Case) (p : Pr) : Option Int := (wd c.xs p.1).bind fun x => (wd c.ys p.2).bind fun y => pairW c.same c.fs x y
theorem cut_to {xs : List V} {i : Int} (h0 : 0 ≤ i) (h : i ≤ (xs.length : Int)) : cutV xs none (some i) = xs.take i.toNat := by
  have e0 : HT.sIx xs.length 0 none = 0 := by simp [HT.sIx]
  unfold cutV
  rw [e0, sIx_pos h0 h]
  simp
theorem cut_from {xs : List V} {i : Int} (h0 : 0 ≤ i) (h : i ≤ (xs.length : Int)) : cutV xs (some i) none = xs.drop i.toNat := by
  have e0 : HT.sIx xs.length xs.length none = xs.length := by simp [HT.sIx]
  unfold cutV
  rw [e0, sIx_pos h0 h]
  exact List.take_of_length_le (by rw [List.length_drop]; omega)
/-! the program's terms -/
/-! promises -/
inductive sp_lpairs (vs : List V) (H : Hp) (Q : VK) (u3 : XK) : Prop
  | mk (a : Addr) (us : List V) (ps : List Pr) (_ : vs = [.ref a]) (_ : H a = some (.lst us)) (_ : Prs H us ps) (_ : Q (.bl true) H) : sp_lpairs  vs H Q u3
end QF

set_option Elab.async false
set_option linter.all false
set_option maxRecDepth 100000
set_option maxHeartbeats 4000000
/-! max(xs, default=None), pairs compared, xs[::-1], defs with defaults, blocks over enumerate -/
namespace L2
open PySem PySem.Spec PyProof.Rows PySem.W PySem.Calls
section
variable {pg : Program} {wd : World} {Ar : Around} {Rs : Result → Shared → Prop} {it : Addr} {fp wr : List Addr} {n : Nat} {Pv : Nat → Value → Prop} {Sv : Nat → Heap → Prop}
end
section
variable {X : Cx}
/-- two tuples of flat items, one by one -/
def eqTs : List V → List V → Bool
  | [], [] => true
  | x :: xs, y :: ys => eqV x y && eqTs xs ys
  | _, _ => false
theorem eqTs_range : ∀ (xs ys : List V), ((List.range (min xs.length ys.length)).all (fun j => eqV (xs.getD j .non) (ys.getD j .non)) && xs.length == ys.length) = eqTs xs ys
  | [], [] => rfl
  | [], y :: ys => by simp [eqTs]
  | x :: xs, [] => by simp [eqTs]
  | x :: xs, y :: ys => by
    have ih := eqTs_range xs ys
    simp only [eqTs]
    rw [← ih]
    have e : min (x :: xs).length (y :: ys).length = min xs.length ys.length + 1 := by simp [Nat.succ_min_succ]
    rw [e, List.range_succ_eq_map, List.all_cons, List.all_map]
    simp only [List.getD_cons_zero, Function.comp_def, List.getD_cons_succ, List.length_cons, Bool.and_assoc]
    congr 2
    simp
theorem tup_eqAt {A : Around} {s : Shared} {xs ys : List V} {its its2 : List Value} (r : Vals xs its) (r2 : Vals ys its2) (f1 : xs.all flatV = true) (f2 : ys.all flatV = true) :
    ∀ j (h1 : j < its.toArray.size) (h2 : j < its2.toArray.size), SeqAt.EqAt A s its.toArray[j] its2.toArray[j] ((fun j => eqV (xs.getD j .non) (ys.getD j .non)) j) := by
  refine eqF_at r r2 fun j x y hx hy => .inl ⟨List.all_eq_true.mp f1 x (List.mem_of_getElem? hx), List.all_eq_true.mp f2 y (List.mem_of_getElem? hy), ?_⟩
  simp [List.getD_eq_getElem?_getD, hx, hy]
/-- a tuple not in a list of tuples -/
def TL (H : Hp) (vs : List V) (cs : List (List V)) : Prop := vs.length = cs.length ∧ ∀ (i : Nat) (c : List V), cs[i]? = some c → ∃ t, vs[i]? = some (V.ref t) ∧ H t = some (.tup c) ∧ c.all flatV = true
open Classical in
end
end L2

set_option Elab.async false
set_option linter.all false
set_option maxRecDepth 100000
set_option maxHeartbeats 4000000
/-! ways over open pairs, and the greatest worths -/
namespace QF
open PySem L2
/-! ways over open pairs -/
/-! the program's tables -/
end QF

set_option Elab.async false
set_option linter.all false
set_option maxRecDepth 100000
set_option maxHeartbeats 4000000
/-! all ways, listed; the tables of the law; promises of the tables' defs -/
namespace QF
open PySem L2
/-! lists of ways -/
/-! the greatest so far -/
/-! tables in the heap -/
/-! trails -/
end QF

set_option Elab.async false
set_option linter.all false
set_option maxRecDepth 100000
set_option maxHeartbeats 4000000
namespace QF
open PySem L2
theorem Prs.tl {H : Hp} {us : List V} {ps : List Pr} (P : Prs H us ps) : TL H us (ps.map prV) := by
  refine ⟨by simp [P.1], fun i c e => ?_⟩
  rw [List.getElem?_map] at e
  cases ep : ps[i]? with
  | none => rw [ep] at e; cases e
  | some p =>
    rw [ep] at e
    have e : prV p = c := Option.some.inj e
    obtain ⟨t, h1, h2⟩ := P.2 i p ep
    exact ⟨t, h1, by rw [← e]; exact h2, by rw [← e]; rfl⟩
end QF

set_option Elab.async false
set_option linter.all false
set_option maxRecDepth 100000
set_option maxHeartbeats 4000000
namespace L2
open PySem PySem.Spec PyProof.Rows PySem.W PySem.Calls
/-! ### zip of two lists -/
def Itz (K : Frag) (a b : Addr) : It :=
  ⟨fun i H => ∃ xs ys x y, SqL K H a xs ∧ SqL K H b ys ∧ xs[i]? = some x ∧ ys[i]? = some y,
   fun i H z H' => ∃ T x y, z = .ref T ∧ H T = none ∧ H' = upd H T (.tup [x, y]) ∧ ∀ xs ys, SqL K H a xs → SqL K H b ys → xs[i]? = some x ∧ ys[i]? = some y,
   fun i H => ∃ xs ys, SqL K H a xs ∧ SqL K H b ys ∧ (xs.length ≤ i ∨ ys.length ≤ i)⟩
theorem turn_zip {P : Program} {w : World} {K : Frag} {elts : List Expr} {n : Nat} {pos : Pos} (a b z TI TO i1 i2 : Addr) (D : ZipApart z TI TO i1 i2 a b) :
    Turn P w K (.Tuple elts n pos) (Itz K a b) [z, TI, TO, i1, i2] z (fun i h => IsZip h z TI TO .none ∧ IsPair h TI (.ref i1) (.ref i2) ∧ (∃ u v, IsPair h TO u v) ∧ h.IsListIter i1 a i ∧ h.IsListIter i2 b i) where
  mem := by simp
  obj := fun i h st c hc => by
    obtain ⟨q1, q2, ⟨u, v, q3⟩, ⟨o4, q4, _, r4⟩, o5, q5, _, r5⟩ := st
    have hc' : c = z ∨ c = TI ∨ c = TO ∨ c = i1 ∨ c = i2 := by simpa using hc
    rcases hc' with e | e | e | e | e
    · subst e; exact ⟨_, q1, fun v z => by have z' : Data.fields _ = Data.cell v := z; cases z'⟩
    · subst e; exact ⟨_, q2, fun v z => by have z' : Data.seq _ _ = Data.cell v := z; cases z'⟩
    · subst e; exact ⟨_, q3, fun v z => by have z' : Data.seq _ _ = Data.cell v := z; cases z'⟩
    · subst e; exact ⟨o4, q4, fun v z => by rw [r4] at z; cases z⟩
    · subst e; exact ⟨o5, q5, fun v z => by rw [r5] at z; cases z⟩
  keep := fun i h h' st k => by
    obtain ⟨q1, q2, ⟨u, v, q3⟩, q4, q5⟩ := st
    exact ⟨k z (by simp) _ q1, k TI (by simp) _ q2, ⟨u, v, k TO (by simp) _ q3⟩, q4.at fun o q => k i1 (by simp) o q, q5.at fun o q => k i2 (by simp) o q⟩
  item := by
    intro X hP hw hK hc i pins s σ H E I hf st hg
    subst hP hw hK
    obtain ⟨xs, ys, x, y, hq1, hq2, hx, hy⟩ := hg
    obtain ⟨s1, s2, ⟨u, v, s3⟩, s4, s5⟩ := st
    obtain ⟨its, rv, p, hz⟩ := I.list hq1
    obtain ⟨its', rv', p', hz'⟩ := I.list hq2
    obtain ⟨u1, hu1, ru1⟩ := rv.get hx
    obtain ⟨u2, hu2, ru2⟩ := rv'.get hy
    refine wpAny_pyNext_zip_item D s1 s2 s3 s4 s5 p.isList p'.isList (x := u1) (y := u2) (by simpa using hu1) (by simpa using hu2) fun h' o1 o2 o3 o4 o5 o6 o7 => ?_
    refine ⟨_, rfl, wpAny_letOwnedTupleGo_zip (s := { s with heap := h' }) o1 fun h2 q1 q2 => ?_⟩
    have nz : ∀ c o, s.heap.get? c = some o → s.heap.objs.size ≠ c := fun c o e => Nat.ne_of_gt (Heap.lt_size e)
    have hl2 : h2.get? s.heap.objs.size = some { cls := Value.type "tuple", data := Data.seq #[u1, u2] } := (q2.2 _ (nz _ _ s1)).trans o5
    have hT : FpOk X pins H s.heap.objs.size := I.fpOk (Nat.le_refl _) (I.hok.fresh (Nat.le_refl _))
    have I1 : Inv X pins σ (upd H s.heap.objs.size (.tup [x, y])) { s with heap := h2, toks := s.toks } := by
      refine I.turnedT hf hT (fun c o hc q => ?_) ⟨by simp [sizeLine], [u1, u2], .cons ru1 (.cons ru2 .nil), ?_⟩
      · have c1 : c ≠ z := fun e => hc (by simp [e])
        have c2 : c ≠ TO := fun e => hc (by simp [e])
        have c3 : c ≠ i1 := fun e => hc (by simp [e])
        have c4 : c ≠ i2 := fun e => hc (by simp [e])
        exact (q2.2 c c1).trans (o7 c o c1 c2 c3 c4 q)
      · exact ⟨_, hl2, rfl, _, rfl⟩
    have k2 : ∀ c o, c ≠ z → h'.get? c = some o → h2.get? c = some o := fun c o hc e => (q2.2 c hc).trans e
    refine ⟨.ref s.heap.objs.size, _, I1, rfl, ⟨_, x, y, rfl, hT.1, rfl, fun xs' ys' hy1 hy2 => ?_⟩, ⟨q1, k2 _ _ D.TIz (o7 _ _ D.TIz D.TITO D.TIi1 D.TIi2 s2), ⟨_, _, k2 _ _ D.TOz o2⟩, o3.at fun o q => k2 _ _ D.i1z q, o4.at fun o q => k2 _ _ D.i2z q⟩, fun c hc => ?_⟩
    · rw [I.list_inj hy1 hq1, I.list_inj hy2 hq2]; exact ⟨hx, hy⟩
    · rw [upd_ne (fun e => ?_)]
      · exact (hf c hc).1
      · obtain ⟨_, e4, _⟩ := s4
        obtain ⟨_, e5, _⟩ := s5
        have hc' : c = z ∨ c = TI ∨ c = TO ∨ c = i1 ∨ c = i2 := by simpa using hc
        rcases hc' with w1 | w1 | w1 | w1 | w1
        · exact nz _ _ s1 (e.symm.trans w1)
        · exact nz _ _ s2 (e.symm.trans w1)
        · exact nz _ _ s3 (e.symm.trans w1)
        · exact nz _ _ e4 (e.symm.trans w1)
        · exact nz _ _ e5 (e.symm.trans w1)
  done := by
    intro X hP hw hK hc i pins s σ H E I hf st hg
    subst hP hw hK
    obtain ⟨xs, ys, hq1, hq2, hx⟩ := hg
    obtain ⟨s1, s2, ⟨u, v, s3⟩, s4, s5⟩ := st
    obtain ⟨its, rv, p, hz⟩ := I.list hq1
    obtain ⟨its', rv', p', hz'⟩ := I.list hq2
    have hl := rv.length
    have hl' := rv'.length
    refine wpAny_pyNext_zip_end (I.ok.hd hc) D s1 s2 s3 s4 s5 p.isList p'.isList (hx.imp (fun e => by simp; omega) fun e => by simp; omega) fun h' eb => ⟨rfl, I.turnedL (t' := s.toks) hf (fun c o hc q => eb c o (fun e => hc (by simp [e])) (fun e => hc (by simp [e])) (fun e => hc (by simp [e])) (fun e => hc (by simp [e])) q)⟩
  self := fun _ _ _ _ _ st h => wpAny_pyIter_zip st.1 h
section
variable {X : Cx} {tg : Expr}
def iZip (K : Frag) (ta : TA) : TI := fun σ H R => ta σ H fun vs H1 => ∃ a b, vs = [.ref a, .ref b] ∧ (∃ xs, SqL K H1 a xs) ∧ (∃ ys, SqL K H1 b ys) ∧ R (Itz K a b) H1
theorem pi_zip {elts : List Expr} {n : Nat} {tp : Pos} {a b : Expr} {ta : TA} {p pos : Pos} (hg : Gl X "zip") (hm : X.mg "zip" = none) (ha : PA X [a, b] ta) (hs : starEach [a, b] X.env = (false, eval a X.env) :: starEach [b] X.env := by rfl) (hs2 : ((backTo pos (starEach [b] X.env)).any fun x => x.fst) = false := by rfl) :
    PI X (.Tuple elts n tp) (.Call (.Name "zip" p) [a, b] [] pos) (iZip X.K ta) := by
  intro pins s σ H R I h
  refine Call_ (ld_blt I hg hm boot_zip (PyProof.Rows.callWith_type1 (thn (ha pos pins s σ H _ I h) fun us s1 ⟨vs, H1, I1, r1, q1⟩ => ?_) hs hs2))
  obtain ⟨l, k, e, ⟨xs, hq⟩, ⟨ys, hr⟩, q⟩ := q1
  subst e
  cases r1 with
  | cons r rr =>
    cases rr with
    | cons r' rr' =>
      cases rr'
      cases r
      cases r'
      obtain ⟨its, rv, p, hz⟩ := I1.list hq
      obtain ⟨its', rv', p', hz'⟩ := I1.list hr
      have lt1 : l < s1.heap.objs.size := by obtain ⟨o, e, _⟩ := p.isList; exact Heap.lt_size e
      have lt2 : k < s1.heap.objs.size := by obtain ⟨o, e, _⟩ := p'.isList; exact Heap.lt_size e
      refine call_zip_2 p.isList p'.isList fun h' o1 o2 o3 o4 o5 o6 o7 => ?_
      refine wpAny_pyIter_zip (s := { s1 with heap := h' }) o1 ?_
      refine ⟨_, [s1.heap.objs.size + 4, s1.heap.objs.size + 2, s1.heap.objs.size + 3, s1.heap.objs.size, s1.heap.objs.size + 1], _, _, H1, rfl, I1.kept (t' := s1.toks) o7, turn_zip l k _ _ _ _ _ (ktu_apart _ _ _ lt1 lt2), ⟨o1, o2, ⟨_, _, o3⟩, o4, o5⟩, fun c hc => ?_, q⟩
      have hb' : s1.heap.objs.size ≤ c := by
        have hc' : c = s1.heap.objs.size + 4 ∨ c = s1.heap.objs.size + 2 ∨ c = s1.heap.objs.size + 3 ∨ c = s1.heap.objs.size ∨ c = s1.heap.objs.size + 1 := by simpa using hc
        rcases hc' with e | e | e | e | e <;> rw [e] <;> first | exact Nat.le_refl _ | exact Nat.le_add_right _ _
      exact I1.fpOk hb' (I1.hok.fresh hb')
end
theorem pi_zipK {X : Cx} (K : Frag) {elts : List Expr} {n : Nat} {tp : Pos} {a b : Expr} {ta : TA} {p pos : Pos} (hg : Gl X "zip") (hm : X.mg "zip" = none) (ha : PA X [a, b] ta) (hs : starEach [a, b] X.env = (false, eval a X.env) :: starEach [b] X.env := by rfl) (hs2 : ((backTo pos (starEach [b] X.env)).any fun x => x.fst) = false := by rfl) (h : X.K = K := by rfl) :
    PI X (.Tuple elts n tp) (.Call (.Name "zip" p) [a, b] [] pos) (iZip K ta) := h ▸ pi_zip hg hm ha hs hs2
theorem comp_zip {K : Frag} {a b : Addr} {xs zs : List V} {ls : List Str} {js : List Nat} {g : TG} {tt : TT} {te : TE} {σ : St} {H1 : Hp} {D : Addr} {Q : VK} (he : xs.length = zs.length) (Pv : Nat → List V → St → Hp → Prop)
    (h0 : Pv 0 [] (capσ ls js σ) (upd H1 D (.lst []))) (hl : ∀ i ys σ H, i ≤ xs.length → Pv i ys σ H → SqL K H a xs ∧ SqL K H b zs)
    (hs : ∀ i x z T ys σ H, xs[i]? = some x → zs[i]? = some z → Pv i ys σ H → H T = none → g (.ref T) σ (upd H T (.tup [x, z])) fun σ2 H3 => tt σ2 H3 fun b H4 => if b = true then te σ2 H4 fun y H5 => H5 D = some (.lst ys) ∧ ys.length < sizeLine ∧ Pv (i + 1) (ys ++ [y]) σ2 (upd H5 D (.lst (ys ++ [y]))) else Pv (i + 1) ys σ2 H4)
    (hd : ∀ ys σ H, Pv xs.length ys σ H → Q (.ref D) H) :
    CompW (Itz K a b) ls js g tt te σ H1 D Q :=
  comp_by (n := xs.length) Pv h0 (fun i ys σ H hi p => let ⟨h1, h2⟩ := hl i ys σ H (Nat.le_of_lt hi) p; ⟨xs, zs, xs[i], zs[i]'(he ▸ hi), h1, h2, by simp [hi], by simp [he ▸ hi]⟩) (fun ys σ H p => let ⟨h1, h2⟩ := hl _ ys σ H (Nat.le_refl _) p; ⟨xs, zs, h1, h2, .inl (Nat.le_refl _)⟩)
    (fun i ys σ H x H2 hi p y => by
      obtain ⟨T, u, v, rfl, hT, rfl, hy⟩ := y
      obtain ⟨h1, h2⟩ := hl i ys σ H (Nat.le_of_lt hi) p
      obtain ⟨e1, e2⟩ := hy xs zs h1 h2
      exact hs i u v T ys σ H e1 e2 p hT) hd
section
variable {X : Cx}
theorem ints_of : ∀ {is : List Int} {us : List Value}, Vals (is.map V.int) us → IntsAre us is
  | [], us, r => by cases r; exact .nil
  | i :: is, us, r => by
    cases r with
    | cons r rr =>
      obtain ⟨t, rfl⟩ := r
      exact .cons _ _ (ints_of rr)
def rMin (K : Frag) : List V → Hp → VK → Prop := fun xs H Q => ∃ (a : Addr) (is : List Int), xs = [.ref a] ∧ SqL K H a (is.map V.int) ∧ 0 < is.length ∧ ∀ M, M ∈ is → (∀ x ∈ is, M ≤ x) → Q (.int M) H
theorem call_min1 (hc : X.calm = true) : CallR X (.builtin "min") (rMin X.K) := by
  intro pins s σ H xs us Q I r h
  obtain ⟨a, is, rfl, hq, hne, q⟩ := h
  obtain ⟨u, rfl, ru⟩ := vals1 r
  cases ru
  obtain ⟨its, rv, p, hz⟩ := I.list hq
  have hi := ints_of rv
  obtain ⟨xs, e⟩ := hi.allInts.items
  have hns : is = xs.toList.map (·.1) := by rw [← hi.numsOf, ← nums_intItems, ← e]
  have hsz : 0 < xs.size := by
    have h3 := hne; rw [hns, List.length_map, Array.length_toList] at h3; exact h3
  have hl := p.isList
  rw [e] at hl
  refine min_intList (I.ok.hd hc) hl hsz fun v h' tk hv hk => ?_
  obtain ⟨t, rfl⟩ := intItems_at hv
  obtain ⟨h1, h2⟩ := argBest_lt (numAt xs) (xs.size - 1)
  refine ⟨.int _, H, I.kept hk, ⟨t, rfl⟩, q _ ?_ fun a ha => ?_⟩
  · rw [hns, numAt_eq]; exact getD_mem (by rw [List.length_map, Array.length_toList]; omega)
  · rw [hns] at ha
    obtain ⟨j, hj, rfl⟩ := mem_getD ha
    rw [List.length_map, Array.length_toList] at hj
    rw [← numAt_eq]; exact h2 j (by omega)
theorem call_min1K (K : Frag) (hc : X.calm = true) (h : X.K = K := by rfl) : CallR X (.builtin "min") (rMin K) := h ▸ call_min1 hc
end
end L2
namespace L2
open PySem PySem.Spec PyProof.Rows PySem.W PySem.Calls
section
variable {X : Cx}
/-- two lists of tuples, one by one -/
def eqLs (cs ds : List (List V)) : Bool := decide (cs.length = ds.length) && (List.range cs.length).all fun j => eqTs (cs.getD j []) (ds.getD j [])
inductive rEqLT (K : Frag) (x : V) (y : V) (H : Hp) (Q : VK) : Prop
  | mk (p q : Addr) (xs ys : List V) (cs ds : List (List V)) (_ : x = .ref p) (_ : y = .ref q) (_ : SqL K H p xs) (_ : SqL K H q ys) (_ : TL H xs cs) (_ : TL H ys ds) (_ : Q (.bl (eqLs cs ds)) H) : rEqLT K x y H Q
theorem eqTs_same : ∀ (xs : List V), xs.all flatV = true → eqTs xs xs = true
  | [], _ => rfl
  | x :: xs, h => by
    simp only [List.all_cons, Bool.and_eq_true] at h
    simp only [eqTs, eqTs_same xs h.2, Bool.and_true]
    cases x <;> simp_all [eqV, flatV]
theorem op_eq_listTK (K : Frag) (hu : X.A.units + 1 < cLine) (hK : X.K = K := by rfl) : OpR X (compareOp .Eq) (rEqLT K) := by
  subst hK
  intro pins s σ H x y v u Q I rx ry h
  obtain ⟨p, q, xs, ys, cs, ds, rfl, rfl, hp, hq, t1, t2, k⟩ := h
  cases rx
  cases ry
  obtain ⟨its, r, pl, hz⟩ := I.list hp
  obtain ⟨its2, r2, pl2, hz2⟩ := I.list hq
  have l1 := r.length
  have l2 := r2.length
  obtain ⟨⟨cls, dd, data, sl⟩, ho, hc, n, hd⟩ := id pl.isList
  obtain ⟨⟨cls2, dd2, data2, sl2⟩, ho2, hc2, n2, hd2⟩ := id pl2.isList
  simp only at hc hd hc2 hd2
  subst hc hd hc2 hd2
  have c1 := t1.1
  have c2 := t2.1
  by_cases e : cs.length = ds.length
  · have hsz : its.toArray.size = its2.toArray.size := by rw [List.size_toArray, List.size_toArray]; omega
    refine richCompare_meets_room (op := .Eq) ⟨_, ho, rfl⟩ ⟨_, ho2, rfl⟩ F.slot_list_eq F.entry_list_eq (F.args_list_eq_2 _ _) (SeqAt.list_eqAt p q its.toArray its2.toArray n n2 dd dd2 sl sl2 hsz fun j => eqTs (cs.getD j []) (ds.getD j [])) ⟨ho, ho2, fun j h1 h2 => ?_, ?_⟩ (by omega)
    · have h1' : j < cs.length := by simp at h1; omega
      have h2' : j < ds.length := by omega
      obtain ⟨a1, e1, g1, f1⟩ := t1.2 j cs[j] (by simp [h1'])
      obtain ⟨a2, e2, g2, f2⟩ := t2.2 j ds[j] (by simp [h2'])
      obtain ⟨u1, eu1, ru1⟩ := r.get e1
      obtain ⟨u2, eu2, ru2⟩ := r2.get e2
      cases ru1
      cases ru2
      have k1 : its.toArray[j] = .ref a1 := by simpa [List.getElem?_eq_some_iff] using (List.getElem?_eq_some_iff.mp eu1).2
      have k2 : its2.toArray[j] = .ref a2 := by simpa [List.getElem?_eq_some_iff] using (List.getElem?_eq_some_iff.mp eu2).2
      have d1 : cs.getD j [] = cs[j] := by simp [h1']
      have d2 : ds.getD j [] = ds[j] := by simp [h2']
      rw [k1, k2, d1, d2]
      by_cases ha : a1 = a2
      · subst ha
        rw [g1] at g2
        have e12 : cs[j] = ds[j] := by injection g2 with z; injection z
        rw [← e12, eqTs_same _ f1]
        exact SeqAt.EqAt.same _
      · obtain ⟨its3, r3, pl3, hz3⟩ := I.tuple (xs := cs[j]) (.of g1)
        obtain ⟨its4, r4, pl4, hz4⟩ := I.tuple (xs := ds[j]) (.of g2)
        have := SeqAt.EqAt.of_refs ha (SeqAt.RcAt.tuples (A := X.A.in1) pl3 pl4 (show X.A.in1.units < cLine from hu) (tup_eqAt r3 r4 f1 f2))
        rw [← eqTs_range, r3.length, r4.length]
        simpa using this
    · unfold eqLs at k
      rw [decide_eq_true e, Bool.true_and] at k
      refine ⟨(fun x => nomatch x), .bl _, H, I, ?_, k⟩
      rw [List.size_toArray, ← l1, c1]; rfl
  · have hsz : (its.toArray.size != its2.toArray.size) = true := by
      rw [List.size_toArray, List.size_toArray]
      simp; omega
    refine richCompare_meets_room (op := .Eq) ⟨_, ho, rfl⟩ ⟨_, ho2, rfl⟩ F.slot_list_eq F.entry_list_eq (F.args_list_eq_2 _ _) (SeqAt.list_eq_lengthsAt p q its.toArray its2.toArray n n2 dd dd2 sl sl2 hsz) ⟨ho, ho2, ?_⟩ (by omega)
    unfold eqLs at k
    rw [decide_eq_false e, Bool.false_and] at k
    exact ⟨(fun x => nomatch x), .bl false, H, I, rfl, k⟩
end
end L2

set_option Elab.async false
set_option linter.all false
set_option maxRecDepth 100000
set_option maxHeartbeats 4000000
/-! near stretches -/
namespace QF
open PySem L2
/-- a word of a book answers a told word -/
def ansW (fs : List Form) (x t : Str) : Bool := decide (x = t) || fs.any fun f => (decide (f.1 = x) && decide (f.2.1 = t)) || (decide (f.1 = t) && decide (f.2.1 = x))
theorem price_some {fs : List Form} {x y : Str} : (priceOf fs x y).isSome = fs.any fun f => decide (f.1 = x) && decide (f.2.1 = y) := by
  unfold priceOf
  rw [Option.isSome_map]
  induction fs with
  | nil => rfl
  | cons f r ih =>
    rw [List.find?_cons, List.any_cons, ← ih]
    by_cases h : f.1 = x ∧ f.2.1 = y
    · simp [h.1, h.2]
    · rw [decide_eq_false h]
      have : (decide (f.1 = x) && decide (f.2.1 = y)) = false := by simpa using h
      rw [this]; rfl
theorem pair_some {same : Int} {fs : List Form} {x y : Str} : (pairW same fs x y).isSome = (decide (x = y) || fs.any fun f => decide (f.1 = x) && decide (f.2.1 = y)) := by
  unfold pairW
  by_cases h : x = y
  · simp [h]
  · rw [if_neg h, decide_eq_false h, Option.isSome_map, price_some]; rfl
theorem ans_pair {same : Int} {fs : List Form} {x t : Str} : ((pairW same fs x t).isSome || (pairW same fs t x).isSome) = ansW fs x t := by
  rw [pair_some, pair_some, Bool.eq_iff_iff]
  unfold ansW
  simp only [Bool.or_eq_true, decide_eq_true_eq, List.any_eq_true, Bool.and_eq_true]
  constructor
  · rintro ((h | ⟨f, hf, h⟩) | (h | ⟨f, hf, h⟩))
    · exact .inl h
    · exact .inr ⟨f, hf, .inl h⟩
    · exact .inl h.symm
    · exact .inr ⟨f, hf, .inr h⟩
  · rintro (h | ⟨f, hf, h | h⟩)
    · exact .inl (.inl h)
    · exact .inl (.inr ⟨f, hf, h⟩)
    · exact .inr (.inr ⟨f, hf, h⟩)
def fitsW (fs : List Form) (t : Str) : List Str := [t] ++ (fs.filter fun f => decide (f.1 = t)).map (·.2.1) ++ (fs.filter fun f => decide (f.2.1 = t)).map (·.1)
theorem fits_ans (fs : List Form) (x t : Str) : decide (x ∈ fitsW fs t) = ansW fs x t := by
  rw [Bool.eq_iff_iff]
  unfold fitsW ansW
  simp only [decide_eq_true_eq, Bool.or_eq_true, List.any_eq_true, Bool.and_eq_true, List.mem_append, List.mem_singleton, List.mem_map, List.mem_filter]
  constructor
  · rintro ((h | ⟨f, ⟨hf, h1⟩, h2⟩) | ⟨f, ⟨hf, h1⟩, h2⟩)
    · exact .inl h
    · exact .inr ⟨f, hf, .inr ⟨h1, h2⟩⟩
    · exact .inr ⟨f, hf, .inl ⟨h2, h1⟩⟩
  · rintro (h | ⟨f, hf, h | h⟩)
    · exact .inl (.inl h)
    · exact .inr ⟨f, ⟨hf, h.2⟩, h.1⟩
    · exact .inl (.inr ⟨f, ⟨hf, h.1⟩, h.2⟩)
/-- the last place before n that fits, -1 for none -/
def lastA (p : Nat → Bool) : Nat → Int
  | 0 => -1
  | n + 1 => if p n then (n : Int) else lastA p n
theorem last_ge (p : Nat → Bool) (l : Nat) : ∀ n : Nat, (l : Int) ≤ lastA p n ↔ ∃ i, l ≤ i ∧ i < n ∧ p i = true
  | 0 => by
    unfold lastA
    exact ⟨fun h => by omega, fun ⟨i, _, h, _⟩ => by omega⟩
  | n + 1 => by
    unfold lastA
    by_cases hp : p n = true
    · rw [if_pos hp]
      exact ⟨fun h => ⟨n, by omega, by omega, hp⟩, fun ⟨i, h1, h2, _⟩ => by omega⟩
    · rw [if_neg hp, last_ge p l n]
      refine ⟨fun ⟨i, h1, h2, h3⟩ => ⟨i, h1, by omega, h3⟩, fun ⟨i, h1, h2, h3⟩ => ⟨i, h1, ?_, h3⟩⟩
      have : i ≠ n := fun e => hp (e ▸ h3)
      omega
theorem last_lo (p : Nat → Bool) : ∀ n : Nat, -1 ≤ lastA p n ∧ lastA p n < n
  | 0 => by unfold lastA; omega
  | n + 1 => by
    have := last_lo p n
    unfold lastA
    split <;> omega
structure NS where
  ws : List Str
  ts : List Str
  fs : List Form
  span : Nat
def NS.p (c : NS) (t : Str) (i : Nat) : Bool := match c.ws[i]? with
  | some x => ansW c.fs x t
  | none => false
def NS.lasts (c : NS) (n : Nat) : List Int := c.ts.map fun t => lastA (c.p t) n
def NS.low (c : NS) (n : Nat) : Int := ((c.lasts n).min?).getD (-1)
theorem NS.low_of (c : NS) {n : Nat} {M : Int} (h1 : M ∈ c.lasts n) (h2 : ∀ x ∈ c.lasts n, M ≤ x) : c.low n = M := by
  have : (c.lasts n).min? = some M := List.min?_eq_some_iff.mpr ⟨h1, h2⟩
  unfold NS.low
  rw [this]; rfl
theorem NS.low_is (c : NS) (hne : 0 < c.ts.length) (n : Nat) : c.low n ∈ c.lasts n ∧ ∀ x ∈ c.lasts n, c.low n ≤ x := by
  cases e : (c.lasts n).min? with
  | none =>
    have := List.min?_eq_none_iff.mp e
    have := congrArg List.length this
    simp [NS.lasts] at this
    rw [this] at hne
    simp at hne
  | some M =>
    have h := List.min?_eq_some_iff.mp e
    unfold NS.low
    rw [e]; exact h
theorem NS.low_ge (c : NS) (hne : 0 < c.ts.length) (l n : Nat) : (l : Int) ≤ c.low n ↔ ∀ t ∈ c.ts, ∃ i, l ≤ i ∧ i < n ∧ c.p t i = true := by
  obtain ⟨h1, h2⟩ := c.low_is hne n
  constructor
  · intro h t ht
    refine (last_ge _ l n).mp (Int.le_trans h (h2 _ (List.mem_map_of_mem ht)))
  · intro h
    obtain ⟨t, ht, e⟩ := List.mem_map.mp h1
    rw [← e]
    exact (last_ge _ l n).mpr (h t ht)
theorem NS.low_lo (c : NS) (hne : 0 < c.ts.length) (n : Nat) : -1 ≤ c.low n ∧ c.low n < n := by
  obtain ⟨t, ht, e⟩ := List.mem_map.mp (c.low_is hne n).1
  rw [← e]
  exact last_lo _ n
theorem NS.low0 (c : NS) (hne : 0 < c.ts.length) : c.low 0 = -1 := by have := c.low_lo hne 0; omega
theorem NS.low_up (c : NS) (hne : 0 < c.ts.length) (n : Nat) : c.low n ≤ c.low (n + 1) := by
  by_cases h : c.low n = -1
  · have := c.low_lo hne (n + 1); omega
  · have h0 := c.low_lo hne n
    obtain ⟨l, hl⟩ := Int.eq_ofNat_of_zero_le (show 0 ≤ c.low n by omega)
    rw [hl]
    refine (c.low_ge hne l (n + 1)).mpr fun t ht => ?_
    obtain ⟨i, h1, h2, h3⟩ := (c.low_ge hne l n).mp (by omega) t ht
    exact ⟨i, h1, by omega, h3⟩
theorem NS.low_mono (c : NS) (hne : 0 < c.ts.length) {m n : Nat} (h : m ≤ n) : c.low m ≤ c.low n := by
  induction n with
  | zero => have : m = 0 := by omega
            subst this; exact Int.le_refl _
  | succ n ih =>
    by_cases e : m = n + 1
    · subst e; exact Int.le_refl _
    · exact Int.le_trans (ih (by omega)) (c.low_up hne n)
/-- what the program tells -/
def NS.at_ (c : NS) (h : Nat) : Option Pr := if c.low h < c.low (h + 1) ∧ (h : Int) - c.low (h + 1) < c.span then some (c.low (h + 1), (h : Int)) else none
def NS.told (c : NS) (k : Nat) : List Pr := (List.range k).filterMap c.at_
theorem NS.told_succ (c : NS) (k : Nat) : c.told (k + 1) = c.told k ++ (c.at_ k).toList := by
  unfold NS.told
  rw [List.range_succ, List.filterMap_append]
  cases h : c.at_ k <;> simp [h]
/-- what the law asks -/
def NS.holds (c : NS) (l h : Nat) : Bool := c.ts.all fun t => (((c.ws.map fun x => decide (x ∈ fitsW c.fs t)).drop l).take (h - l)).any id
def NS.ok (c : NS) (l h : Nat) : Bool := c.holds l (h + 1) && !(c.holds (l + 1) (h + 1)) && !(c.holds l h)
def NS.row (c : NS) (l k : Nat) : List Pr := (List.range k).filterMap fun d => if c.ok l (l + d) = true then some ((l : Int), ((l + d : Nat) : Int)) else none
def NS.due (c : NS) (i : Nat) : List Pr := (List.range i).flatMap fun l => c.row l (min c.ws.length (l + c.span) - l)
theorem NS.row_succ (c : NS) (l k : Nat) : c.row l (k + 1) = c.row l k ++ (if c.ok l (l + k) = true then [((l : Int), ((l + k : Nat) : Int))] else []) := by
  unfold NS.row
  rw [List.range_succ, List.filterMap_append]
  by_cases h : c.ok l (l + k) = true <;> simp [h]
theorem NS.due_succ (c : NS) (i : Nat) : c.due (i + 1) = c.due i ++ c.row i (min c.ws.length (i + c.span) - i) := by
  unfold NS.due
  rw [List.range_succ, List.flatMap_append]
  simp
theorem NS.holds_iff (c : NS) (l h : Nat) : c.holds l h = true ↔ ∀ t ∈ c.ts, ∃ i, l ≤ i ∧ i < h ∧ c.p t i = true := by
  unfold NS.holds
  rw [List.all_eq_true]
  refine forall_congr' fun t => forall_congr' fun _ => ?_
  rw [List.any_eq_true]
  constructor
  · rintro ⟨b, hb, e⟩
    obtain ⟨j, hj⟩ := List.mem_iff_getElem?.mp hb
    rw [List.getElem?_take] at hj
    split at hj
    · rename_i hlt
      rw [List.getElem?_drop, List.getElem?_map] at hj
      cases hx : c.ws[l + j]? with
      | none => rw [hx] at hj; cases hj
      | some x =>
        rw [hx] at hj
        refine ⟨l + j, by omega, by omega, ?_⟩
        unfold NS.p
        rw [hx]
        have hj : decide (x ∈ fitsW c.fs t) = b := by simpa using hj
        rw [fits_ans] at hj
        show ansW c.fs x t = true
        rw [hj]; exact e
    · cases hj
  · rintro ⟨i, h1, h2, h3⟩
    unfold NS.p at h3
    cases hx : c.ws[i]? with
    | none => rw [hx] at h3; cases h3
    | some x =>
      rw [hx] at h3
      refine ⟨true, List.mem_iff_getElem?.mpr ⟨i - l, ?_⟩, rfl⟩
      rw [List.getElem?_take, if_pos (by omega), List.getElem?_drop, List.getElem?_map, show l + (i - l) = i by omega, hx]
      have h3 : ansW c.fs x t = true := h3
      rw [← fits_ans] at h3
      simpa using h3
theorem NS.ok_iff (c : NS) (hne : 0 < c.ts.length) (l h : Nat) : c.ok l h = true ↔ c.low h < l ∧ c.low (h + 1) = l := by
  have h1 : c.holds l (h + 1) = true ↔ (l : Int) ≤ c.low (h + 1) := (c.holds_iff l (h + 1)).trans (c.low_ge hne l (h + 1)).symm
  have h2 : c.holds (l + 1) (h + 1) = true ↔ ((l + 1 : Nat) : Int) ≤ c.low (h + 1) := (c.holds_iff (l + 1) (h + 1)).trans (c.low_ge hne (l + 1) (h + 1)).symm
  have h3 : c.holds l h = true ↔ (l : Int) ≤ c.low h := (c.holds_iff l h).trans (c.low_ge hne l h).symm
  unfold NS.ok
  simp only [Bool.and_eq_true, Bool.not_eq_true', ← Bool.not_eq_true, h1, h2, h3]
  omega
/-- two lists in the same strict order with the same members are the same -/
theorem same_sorted {α : Type} {r : α → α → Prop} (irr : ∀ a, ¬ r a a) (asym : ∀ a b, r a b → ¬ r b a) : ∀ {xs ys : List α}, xs.Pairwise r → ys.Pairwise r → (∀ a, a ∈ xs ↔ a ∈ ys) → xs = ys
  | [], [], _, _, _ => rfl
  | [], y :: ys, _, _, h => absurd ((h y).mpr (List.mem_cons_self ..)) (by simp)
  | x :: xs, [], _, _, h => absurd ((h x).mp (List.mem_cons_self ..)) (by simp)
  | x :: xs, y :: ys, hx, hy, h => by
    obtain ⟨hx1, hx2⟩ := List.pairwise_cons.mp hx
    obtain ⟨hy1, hy2⟩ := List.pairwise_cons.mp hy
    have e : x = y := by
      rcases List.mem_cons.mp ((h x).mp (List.mem_cons_self ..)) with e | e
      · exact e
      · rcases List.mem_cons.mp ((h y).mpr (List.mem_cons_self ..)) with e2 | e2
        · exact e2.symm
        · exact absurd (hx1 y e2) (asym _ _ (hy1 x e))
    subst e
    congr 1
    refine same_sorted irr asym hx2 hy2 fun a => ?_
    have := h a
    simp only [List.mem_cons] at this
    constructor
    · intro ha
      rcases this.mp (.inr ha) with e | e
      · subst e; exact absurd (hx1 _ ha) (irr _)
      · exact e
    · intro ha
      rcases this.mpr (.inr ha) with e | e
      · subst e; exact absurd (hy1 _ ha) (irr _)
      · exact e
def prLt (a b : Pr) : Prop := a.1 < b.1 ∨ (a.1 = b.1 ∧ a.2 < b.2)
theorem NS.told_mem (c : NS) (k : Nat) (a : Pr) : a ∈ c.told k ↔ ∃ h : Nat, h < k ∧ c.low h < c.low (h + 1) ∧ (h : Int) - c.low (h + 1) < c.span ∧ a = (c.low (h + 1), (h : Int)) := by
  unfold NS.told NS.at_
  rw [List.mem_filterMap]
  constructor
  · rintro ⟨h, hk, e⟩
    split at e
    · rename_i hh
      cases e
      exact ⟨h, List.mem_range.mp hk, hh.1, hh.2, rfl⟩
    · cases e
  · rintro ⟨h, hk, h1, h2, rfl⟩
    exact ⟨h, List.mem_range.mpr hk, by rw [if_pos ⟨h1, h2⟩]⟩
theorem NS.due_mem (c : NS) (i : Nat) (a : Pr) : a ∈ c.due i ↔ ∃ l h : Nat, l < i ∧ l ≤ h ∧ h < c.ws.length ∧ h < l + c.span ∧ c.ok l h = true ∧ a = ((l : Int), (h : Int)) := by
  unfold NS.due NS.row
  rw [List.mem_flatMap]
  constructor
  · rintro ⟨l, hl, hm⟩
    obtain ⟨d, hd, e⟩ := List.mem_filterMap.mp hm
    have hd := List.mem_range.mp hd
    split at e
    · rename_i hh
      cases e
      exact ⟨l, l + d, List.mem_range.mp hl, by omega, by omega, by omega, hh, rfl⟩
    · cases e
  · rintro ⟨l, h, h1, h2, h3, h4, h5, rfl⟩
    refine ⟨l, List.mem_range.mpr h1, List.mem_filterMap.mpr ⟨h - l, List.mem_range.mpr (by omega), ?_⟩⟩
    rw [show l + (h - l) = h by omega, if_pos h5]
theorem NS.told_sorted (c : NS) (hne : 0 < c.ts.length) (k : Nat) : (c.told k).Pairwise prLt := by
  unfold NS.told
  refine List.pairwise_filterMap.mpr ?_
  refine List.Pairwise.imp_of_mem (R := fun a b => a < b) (fun {a b} _ _ h x hx y hy => ?_) List.pairwise_lt_range
  unfold NS.at_ at hx hy
  split at hx
  · rename_i h1
    split at hy
    · rename_i h2
      cases hx
      cases hy
      have := c.low_mono hne (show a + 1 ≤ b by omega)
      exact .inl (by show c.low (a + 1) < c.low (b + 1); omega)
    · cases hy
  · cases hx
theorem NS.due_sorted (c : NS) (i : Nat) : (c.due i).Pairwise prLt := by
  unfold NS.due
  rw [List.flatMap_def, List.pairwise_flatten]
  refine ⟨fun r hr => ?_, ?_⟩
  · obtain ⟨l, _, rfl⟩ := List.mem_map.mp hr
    unfold NS.row
    refine List.pairwise_filterMap.mpr ?_
    refine List.Pairwise.imp_of_mem (R := fun a b => a < b) (fun {a b} _ _ h x hx y hy => ?_) List.pairwise_lt_range
    split at hx
    · split at hy
      · cases hx
        cases hy
        exact .inr ⟨rfl, by show ((l + a : Nat) : Int) < ((l + b : Nat) : Int); omega⟩
      · cases hy
    · cases hx
  · refine List.pairwise_map.mpr ?_
    refine List.Pairwise.imp_of_mem (R := fun a b => a < b) (fun {a b} _ _ h x hx y hy => ?_) List.pairwise_lt_range
    unfold NS.row at hx hy
    obtain ⟨d, _, e⟩ := List.mem_filterMap.mp hx
    obtain ⟨d', _, e'⟩ := List.mem_filterMap.mp hy
    split at e
    · split at e'
      · cases e
        cases e'
        exact .inl (by show (a : Int) < (b : Int); omega)
      · cases e'
    · cases e
/-- both are the same -/
theorem NS.right (c : NS) (hne : 0 < c.ts.length) : c.told c.ws.length = c.due c.ws.length := by
  refine same_sorted (r := prLt) (fun a h => ?_) (fun a b h h' => ?_) (c.told_sorted hne _) (c.due_sorted _) fun a => ?_
  · unfold prLt at h; omega
  · unfold prLt at h h'; omega
  · rw [c.told_mem, c.due_mem]
    constructor
    · rintro ⟨h, hk, h1, h2, rfl⟩
      have h3 := c.low_lo hne h
      have h4 := c.low_lo hne (h + 1)
      obtain ⟨l, hl⟩ := Int.eq_ofNat_of_zero_le (show 0 ≤ c.low (h + 1) by omega)
      refine ⟨l, h, by omega, by omega, hk, by omega, (c.ok_iff hne l h).mpr ⟨by omega, hl⟩, by rw [hl]⟩
    · rintro ⟨l, h, h1, h2, h3, h4, h5, rfl⟩
      obtain ⟨h6, h7⟩ := (c.ok_iff hne l h).mp h5
      exact ⟨h, h3, by omega, by omega, by rw [h7]⟩
def NS.bits (c : NS) (t : Str) : List Bool := c.ws.map fun x => decide (x ∈ fitsW c.fs t)
/-- the rows of marks, none of them the list at m -/
def MK (H : Hp) (m : Addr) (c : NS) (ms : List V) (ts : List Str) : Prop := ms.length = ts.length ∧ ∀ (i : Nat) (t : Str), ts[i]? = some t → ∃ a, ms[i]? = some (V.ref a) ∧ a ≠ m ∧ H a = some (.lst ((c.bits t).map V.bl))
theorem MK.nil {H : Hp} {m : Addr} {c : NS} : MK H m c [] [] := ⟨rfl, fun i f e => by simp at e⟩
theorem MK.same {H H' : Hp} {m : Addr} {c : NS} {ms : List V} {ts : List Str} (h : MK H m c ms ts) (s : Same H H') : MK H' m c ms ts := ⟨h.1, fun i t e => let ⟨a, h1, h2, h3⟩ := h.2 i t e; ⟨a, h1, h2, s _ _ h3⟩⟩
theorem MK.but {H : Hp} {m : Addr} {c : NS} {ms : List V} {ts : List Str} {o : HO} (h : MK H m c ms ts) : MK (upd H m o) m c ms ts := ⟨h.1, fun i t e => let ⟨a, h1, h2, h3⟩ := h.2 i t e; ⟨a, h1, h2, by rw [upd_ne h2]; exact h3⟩⟩
theorem MK.snoc {H : Hp} {m a : Addr} {c : NS} {ms : List V} {ts : List Str} {t : Str} (h : MK H m c ms ts) (hm : a ≠ m) (ha : H a = some (.lst ((c.bits t).map V.bl))) : MK H m c (ms ++ [.ref a]) (ts ++ [t]) := by
  refine ⟨by simp [h.1], fun i u e => ?_⟩
  by_cases hi : i < ts.length
  · rw [List.getElem?_append_left hi] at e
    obtain ⟨b, h1, h2, h3⟩ := h.2 i u e
    exact ⟨b, by rw [List.getElem?_append_left (by rw [h.1]; exact hi)]; exact h1, h2, h3⟩
  · rw [List.getElem?_append_right (by omega)] at e
    have hz : i - ts.length = 0 := by
      cases hd : i - ts.length with
      | zero => rfl
      | succ k => rw [hd] at e; simp at e
    rw [hz] at e
    cases e
    exact ⟨a, by rw [List.getElem?_append_right (by rw [h.1]; omega), h.1, hz]; rfl, hm, ha⟩
def fit1 (fs : List Form) (t : Str) : List Str := (fs.filter fun f => decide (f.1 = t)).map (·.2.1)
def fit2 (fs : List Form) (t : Str) : List Str := (fs.filter fun f => decide (f.2.1 = t)).map (·.1)
theorem fit1_succ {fs : List Form} {t : Str} {k : Nat} {f : Form} (h : fs[k]? = some f) : fit1 (fs.take (k + 1)) t = fit1 (fs.take k) t ++ (if f.1 = t then [f.2.1] else []) := by
  unfold fit1
  rw [List.take_succ, h, List.filter_append, List.map_append]
  by_cases e : f.1 = t <;> simp [e]
theorem fit2_succ {fs : List Form} {t : Str} {k : Nat} {f : Form} (h : fs[k]? = some f) : fit2 (fs.take (k + 1)) t = fit2 (fs.take k) t ++ (if f.2.1 = t then [f.1] else []) := by
  unfold fit2
  rw [List.take_succ, h, List.filter_append, List.map_append]
  by_cases e : f.2.1 = t <;> simp [e]
theorem fit1_len (fs : List Form) (t : Str) (k : Nat) : (fit1 (fs.take k) t).length ≤ fs.length := by
  unfold fit1
  rw [List.length_map]
  refine Nat.le_trans (List.length_filter_le ..) ?_
  rw [List.length_take]; omega
theorem fit2_len (fs : List Form) (t : Str) (k : Nat) : (fit2 (fs.take k) t).length ≤ fs.length := by
  unfold fit2
  rw [List.length_map]
  refine Nat.le_trans (List.length_filter_le ..) ?_
  rw [List.length_take]; omega
theorem cut_two {xs : List V} {l h : Nat} (hl : l ≤ xs.length) (hh : h ≤ xs.length) : cutV xs (some (l : Int)) (some (h : Int)) = (xs.drop l).take (h - l) := by
  unfold cutV
  have e1 : HT.sIx xs.length 0 (some (l : Int)) = l := by rw [HT.sIx_nat]; omega
  have e2 : HT.sIx xs.length xs.length (some (h : Int)) = h := by rw [HT.sIx_nat]; omega
  rw [e1, e2]
theorem row_len (c : NS) (l k : Nat) : (c.row l k).length ≤ k := by
  unfold NS.row
  refine Nat.le_trans (List.length_filterMap_le ..) ?_
  simp
theorem due_len (c : NS) : ∀ i, (c.due i).length ≤ i * c.ws.length
  | 0 => by simp [NS.due]
  | i + 1 => by
    rw [c.due_succ, List.length_append, Nat.succ_mul]
    have h1 := due_len c i
    have h2 := row_len c i (min c.ws.length (i + c.span) - i)
    omega
inductive sp_answer (C : Addr) (vs : List V) (H : Hp) (Q : VK) (u3 : XK) : Prop
  | mk (te : Addr) (x t : Str) (n : Nums) (fs : List Form) (dx l d : Addr) (xs : List V) (_ : vs = [.str x, .str t, .ref te]) (_ : TermsAt H C te n fs dx l d xs) (_ : ∀ H', Same H H' → Q (.bl (ansW fs x t)) H') : sp_answer C vs H Q u3
inductive sp_stretch (C : Addr) (vs : List V) (H : Hp) (Q : VK) (u3 : XK) : Prop
  | mk (b w te : Addr) (c : NS) (n : Nums) (dx l d : Addr) (xs : List V) (_ : vs = [.ref b, .ref w, .int c.span, .ref te]) (_ : H b = some (.lst (c.ws.map V.str))) (_ : H w = some (.lst (c.ts.map V.str))) (_ : 0 < c.ts.length) (_ : c.ts.length ≤ 1000) (_ : c.ws.length ≤ 1000) (_ : TermsAt H C te n c.fs dx l d xs) (_ : ∀ H' r us, Same H H' → H r = none → H' r = some (.lst us) → Prs H' us (c.told c.ws.length) → Q (.ref r) H') : sp_stretch C vs H Q u3
inductive sp_lstretch (vs : List V) (H : Hp) (Q : VK) (u3 : XK) : Prop
  | mk (b w l : Addr) (c : NS) (xs : List V) (_ : vs = [.ref b, .ref w, .int c.span, .ref l]) (_ : H b = some (.lst (c.ws.map V.str))) (_ : H w = some (.lst (c.ts.map V.str))) (_ : H l = some (.lst xs)) (_ : Trips H xs c.fs) (_ : c.ts.length ≤ 100) (_ : c.ws.length ≤ 100) (_ : c.fs.length ≤ 100) (_ : c.span ≤ 1000) (_ : ∀ H' r us, Same H H' → H r = none → H' r = some (.lst us) → Prs H' us (c.due c.ws.length) → Q (.ref r) H') : sp_lstretch vs H Q u3
end QF
namespace QF
open PySem L2
theorem eqLs_prV (ps : List Pr) : eqLs (ps.map prV) (ps.map prV) = true := by
  unfold eqLs
  simp only [decide_true, Bool.true_and, List.all_eq_true, List.mem_range]
  intro j hj
  refine eqTs_same _ ?_
  rw [List.length_map] at hj
  simp [hj, prV, flatV]
theorem cut_head {xs : List V} {i : Int} (h0 : 0 ≤ i) : cutV xs none (some i) = xs.take i.toNat := by
  obtain ⟨k, rfl⟩ := Int.eq_ofNat_of_zero_le h0
  unfold cutV
  have e1 : HT.sIx xs.length 0 none = 0 := rfl
  rw [HT.sIx_nat, e1, List.drop_zero, Nat.sub_zero, Int.toNat_natCast]
  rcases Nat.le_total k xs.length with h | h
  · rw [Nat.min_eq_left h]
  · rw [Nat.min_eq_right h, List.take_length, List.take_of_length_le h]
end QF

set_option Elab.async false
set_option linter.all false
set_option maxRecDepth 100000
set_option maxHeartbeats 4000000
namespace K34
open PySem L2 QF
def top (i : Nat) : Stmt := PySem.Challenge.pw_quotefind_k34_near_stretches.main.body.getD i (.Pass ⟨0, 0, 0, 0⟩)
abbrev s_is_small_letter : Stmt := top 7
abbrev s_is_word : Stmt := top 8
abbrev s_is_between : Stmt := top 16
abbrev s_check_number : Stmt := top 17
abbrev s_check_near_form : Stmt := top 18
abbrev s_near_prices : Stmt := top 19
abbrev s_Terms___init__ : Stmt := inClass (top 20) 0
abbrev s_Terms_pair_worth : Stmt := inClass (top 20) 1
abbrev s_is_answer : Stmt := top 10
abbrev s_near_stretches : Stmt := top 11
abbrev s__law_at : Stmt := top 22
abbrev s__law_whole : Stmt := top 23
abbrev s__law_bank : Stmt := top 24
abbrev s__law_book : Stmt := top 25
abbrev s__law_near : Stmt := top 26
abbrev s__law_pairs : Stmt := top 27
abbrev s__law_texts : Stmt := top 28
abbrev s__law_stretches : Stmt := top 29
abbrev s_law : Stmt := top 30
section
variable {P : Program} {w : World} {K : W.Frag} {mg : Str → Option Value} {base : Heap}
variable {C_BadTerms C_BadNear C_Terms : Addr}
theorem sc_is_small_letter : FnScope ["sign"] ["sign"] (defScope s_is_small_letter) := ⟨rfl, rfl, rfl, by decide +kernel, rfl, by decide +kernel, by decide +kernel⟩
theorem ok_is_small_letter {f : Addr} {fd : FuncData} (F : Fun K "is_small_letter" "is_small_letter" s_is_small_letter f fd) (T : TB mg) : FnOk P w K mg base (CXF P w) true 1 f fd ["sign"] sp_low := by
  refine F.okX sc_is_small_letter (fun vs H Q E h => ?_) (fun cdv A outer s H vs Q E hr h hX => ?_)
  · obtain ⟨i, rfl, _⟩ := h
    rfl
  · obtain ⟨c, rfl, q⟩ := h
    refine ⟨_, (@pss_one _ _ _ (@ps_ret _ _ _ _ (@pe_and _ _ _ _ _ _ _ (@pe_cmpR _ _ _ _ _ _ _ _ op_le_str pe_str (pv 0) (nomark _)) (@pe_one _ _ _ _ _ (@pe_cmpR _ _ _ _ _ _ _ _ op_le_str (pv 0) pe_str (nomark _)))))), ?_⟩
    refine ⟨_, rfl, _, _, rfl, rfl, _, rfl, ?_⟩
    have q : Q (.bl (decide (97 ≤ c) && decide (c ≤ 122))) H := q
    rw [← le_a, ← le_z] at q
    refine ite2 (fun h => ?_) (fun h => ?_)
    · refine ⟨_, rfl, _, _, rfl, rfl, ?_⟩
      rw [h, Bool.true_and] at q
      exact q
    · rw [Bool.not_eq_true] at h
      rw [h, Bool.false_and] at q
      exact q
theorem sc_is_word : FnScope ["text"] ["text"] (defScope s_is_word) := ⟨rfl, rfl, rfl, by decide +kernel, rfl, by decide +kernel, by decide +kernel⟩
theorem ok_is_word {f : Addr} {fd : FuncData} (F : Fun K "is_word" "is_word" s_is_word f fd) (T : TB mg) (c_WORD_MOST : Con mg "WORD_MOST" (.int 12)) (D_is_small_letter : IsDef P w K mg base true 1 "is_small_letter" ["sign"] sp_low) : FnOk P w K mg base (CXF P w) true 2 f fd ["text"] sp_word := by
  refine F.okX sc_is_word (fun vs H Q E h => ?_) (fun cdv A outer s H vs Q E hr h hX => ?_)
  · obtain ⟨i, rfl, _⟩ := h
    rfl
  · obtain ⟨z, rfl, hz, q⟩ := h
    refine ⟨_, (@pss_cons _ _ _ _ _ (@ps_if _ _ _ _ _ _ _ _ (@PW.pt _ _ _ (@pw_or _ _ _ _ _ _ _ (@pt_cmpR _ _ _ _ _ _ _ _ op_lt (@pe_callB _ _ _ _ _ _ _ _ _ call_len_str (by exact rfl) T.n_len PyProof.Rows.Boot.«len» (@pa_c _ _ _ _ _ (pv 0) pa_nil (by rfl)) (by decide) (by decide) (by rfl) (by rfl)) pe_int (nomark _)) (@pw_or1 _ _ _ _ (@pt_cmpR _ _ _ _ _ _ _ _ op_gt (@pe_callB _ _ _ _ _ _ _ _ _ call_len_str (by exact rfl) T.n_len PyProof.Rows.Boot.«len» (@pa_c _ _ _ _ _ (pv 0) pa_nil (by rfl)) (by decide) (by decide) (by rfl) (by rfl)) (@pe_con' _ _ _ _ c_WORD_MOST (by rfl) (by decide)) (nomark _))))) (@pss_one _ _ _ (@ps_ret _ _ _ _ pe_bl)) pss_nil) (@pss_one _ _ _ (@ps_ret _ _ _ _ (@pe_callB _ _ _ _ _ _ _ _ _ (call_allK K rfl) (by exact rfl) T.n_all PyProof.Rows.Boot.«all» (@pa_c _ _ _ _ _ (@pe_comp _ _ _ _ _ _ _ _ _ _ _ _ _ _ (by exact rfl) (show CompScope ["text"] (defScope s_is_word) _ ["sign"] [] [] from ⟨rfl, by decide +kernel, by decide +kernel, by decide +kernel, rfl, rfl, by decide +kernel, by decide +kernel, by decide +kernel⟩) (@pi_str _ _ _ _ (pv 0)) (fun _ _ _ _ _ => (@pg_name _ _ (0) _ (show (["sign"] : List Str).Nodup by decide +kernel) (by exact rfl) (Or.inl rfl) (by first | exact .inl rfl | exact .inr rfl | assumption))) (fun _ _ _ _ _ => pts_nil) (fun _ _ _ _ _ => (@pe_def _ _ _ _ _ _ _ _ _ _ _ _ D_is_small_letter (hr.mono (by decide)) passF (@pa_c _ _ _ _ _ (pv 0) pa_nil (by rfl)) (by rfl) (by decide) (by rfl) (by rfl))) (by intro _; rfl)) pa_nil (by rfl)) (by decide) (by decide) (by rfl) (by rfl))))), ?_⟩
    have hz' : z.length ≤ sizeLine := Nat.le_trans hz (by decide)
    refine ⟨_, rfl, z, rfl, hz', _, _, rfl, rfl, _, rfl, ?_⟩
    refine ite2 (fun h => ?_) (fun h => ?_)
    · have h : ((z.length : Nat) : Int) < 1 := by simpa using h
      refine iteT ?_
      have e : isW z = false := by
        have : ¬ 1 ≤ z.length := by omega
        simp [isW, this]
      have q := q H (Same.refl H)
      rw [e] at q
      exact q
    have h : ¬ ((z.length : Nat) : Int) < 1 := by simpa using h
    refine ⟨_, rfl, z, rfl, hz', _, _, rfl, rfl, _, rfl, ?_⟩
    refine ite2 (fun h2 => ?_) (fun h2 => ?_)
    · have h2 : (12 : Int) < ((z.length : Nat) : Int) := by simpa using h2
      have e : isW z = false := by
        have : ¬ z.length ≤ 12 := by omega
        simp [isW, this]
      have q := q H (Same.refl H)
      rw [e] at q
      exact q
    have h2 : ¬ (12 : Int) < ((z.length : Nat) : Int) := by simpa using h2
    have hl : z.length ≤ 12 := by omega
    have e : isW z = z.cps.toList.all low := by
      have h3 : 1 ≤ z.length := by omega
      simp [isW, h3, hl]
    -- the block
    refine ⟨_, rfl, z, rfl, fun D hD => ?_⟩
    refine comp_str (fun i ys σ H' => (∃ v, σ = [v]) ∧ ys = (z.cps.toList.take i).map (fun c => V.bl (low c)) ∧ H' = upd H D (.lst ys)) ⟨⟨_, rfl⟩, rfl, rfl⟩ ?_ ?_
    · rintro i c ys σ H' hc ⟨⟨v, rfl⟩, hy, rfl⟩
      refine gN_yes ?_
      refine ⟨_, rfl, c, rfl, upd_same, ?_, ⟨_, rfl⟩, ?_, ?_⟩
      · rw [hy, List.length_map, List.length_take]
        exact Nat.lt_of_le_of_lt (Nat.min_le_left _ _) (Nat.lt_of_lt_of_le (Nat.lt_of_lt_of_le (List.getElem?_eq_some_iff.mp hc).1 (by simpa [Str.length] using hl)) (by decide))
      · rw [hy, List.take_succ, hc]
        simp
      · rw [upd_upd]
    · rintro ys σ H' ⟨_, hy, rfl⟩
      have hy2 : ys = (z.cps.toList.map low).map V.bl := by
        rw [hy, List.take_of_length_le (by simp [Str.length])]
        simp
      rw [hy2]
      refine ⟨D, z.cps.toList.map low, rfl, SqL.of upd_same, ?_⟩
      have q := q _ (Same.upd hD : Same H (upd H D (.lst ((z.cps.toList.map low).map V.bl))))
      rw [e] at q
      have e3 : (z.cps.toList.map low).all id = z.cps.toList.all low := by rw [List.all_map]; rfl
      rw [← e3] at q
      exact q
theorem sc_is_between : FnScope ["low", "number", "high"] ["low", "number", "high"] (defScope s_is_between) := ⟨rfl, rfl, rfl, by decide +kernel, rfl, by decide +kernel, by decide +kernel⟩
theorem ok_is_between {f : Addr} {fd : FuncData} (F : Fun K "is_between" "is_between" s_is_between f fd) (T : TB mg) : FnOk P w K mg base (CXF P w) true 1 f fd ["low", "number", "high"] sp_between := by
  refine F.okX sc_is_between (fun vs H Q E h => ?_) (fun cdv A outer s H vs Q E hr h hX => ?_)
  · obtain ⟨l, n, h, rfl, _⟩ := h
    rfl
  · obtain ⟨l, n, h, rfl, q⟩ := h
    refine ⟨_, (@pss_one _ _ _ (@ps_ret _ _ _ _ (@pe_and _ _ _ _ _ _ _ (@pe_cmpR _ _ _ _ _ _ _ _ op_le (pv 0) (pv 1) (nomark _)) (@pe_one _ _ _ _ _ (@pe_cmpR _ _ _ _ _ _ _ _ op_le (pv 1) (pv 2) (nomark _)))))), ?_⟩
    refine ⟨_, rfl, _, rfl, _, _, rfl, rfl, _, rfl, ?_⟩
    refine ite2 (fun h1 => ?_) (fun h1 => ?_)
    · refine ⟨_, rfl, _, rfl, _, _, rfl, rfl, ?_⟩
      rw [h1, Bool.true_and] at q
      exact q
    · rw [Bool.not_eq_true] at h1
      rw [h1, Bool.false_and] at q
      exact q
theorem sc_check_number : FnScope ["name", "number", "low", "high"] ["name", "number", "low", "high"] (defScope s_check_number) := ⟨rfl, rfl, rfl, by decide +kernel, rfl, by decide +kernel, by decide +kernel⟩
theorem ok_check_number {f : Addr} {fd : FuncData} (F : Fun K "check_number" "check_number" s_check_number f fd) (T : TB mg) (D_is_between : IsDef P w K mg base true 1 "is_between" ["low", "number", "high"] sp_between) (e_BadTerms : Er K mg "BadTerms" C_BadTerms) : FnOk P w K mg base (CXF P w) true 2 f fd ["name", "number", "low", "high"] (sp_number C_BadTerms) := by
  refine F.okX sc_check_number (fun vs H Q E h => ?_) (fun cdv A outer s H vs Q E hr h hX => ?_)
  · obtain ⟨nm, n, l, h, rfl, _⟩ := h
    rfl
  · obtain ⟨nm, n, l, h, rfl, hn, hl, hh, q⟩ := h
    refine ⟨_, (@pss_one _ _ _ (@ps_if _ _ _ _ _ _ _ _ (@pt_not _ _ _ _ (@pt_val _ _ _ (@pe_def _ _ _ _ _ _ _ _ _ _ _ _ D_is_between (hr.mono (by decide)) passF (@pa_c _ _ _ _ _ (pv 2) (@pa_c _ _ _ _ _ (pv 1) (@pa_c _ _ _ _ _ (pv 3) pa_nil (by rfl)) (by rfl)) (by rfl)) (by rfl) (by decide) (by rfl) (by rfl)) (by intro _; rfl))) (@pss_one _ _ _ (@ps_raise _ _ _ _ _ _ _ _ _ _ hX (by exact rfl) (by exact rfl) e_BadTerms.m e_BadTerms.e (@pa_c _ _ _ _ _ (@pe_joined _ _ _ _ _ _ (@pj_cons _ _ _ _ _ (@pe_fmt _ _ _ _ (pv 0)) (@pj_cons _ _ _ _ _ pe_str (@pj_cons _ _ _ _ _ (@pe_fmt _ _ _ _ (pv 2)) (@pj_cons _ _ _ _ _ pe_str (@pj_cons _ _ _ _ _ (@pe_fmt _ _ _ _ (pv 3)) pj_nil)))))) pa_nil (by rfl)) (by decide) (by rfl) (by rfl))) pss_nil)), ?_⟩
    refine ⟨_, rfl, _, rfl, _, rfl, l, n, h, rfl, ?_⟩
    refine ⟨_, rfl, ?_⟩
    refine ite2 (fun h1 => ?_) (fun h1 => ?_)
    · have h1 : inR l n h = false := (Bool.not_eq_true' _).mp h1
      rw [h1] at q
      have z1 := told_int (i := l) (by omega)
      have z2 := told_int (i := h) (by omega)
      have w1 : (Str.ofString " lies between ").length = 14 := by decide +kernel
      have w2 : (Str.ofString " and ").length = 5 := by decide +kernel
      have w3 := len_empty
      refine ⟨_, rfl, .inl ⟨nm, rfl, le_line (by omega), nm, rfl, le_line ?_, _, rfl, le_line ?_, _, rfl, .inr ⟨l, rfl, z1.1, _, rfl, le_line ?_, _, rfl, le_line ?_, _, rfl, .inr ⟨h, rfl, z2.1, _, rfl, le_line ?_, le_line ?_, one_line, ?_⟩⟩⟩⟩
      · rw [len_app]; omega
      · rw [len_app, len_app]; omega
      · rw [len_app, len_app, len_app]; omega
      · rw [len_app, len_app, len_app, len_app]; omega
      · rw [len_app, len_app, len_app, len_app, len_app]; omega
      · rw [len_app, len_app, len_app, len_app, len_app]; omega
      · exact q
    · have h1 : inR l n h = true := by
        have h1 : ¬ (!(inR l n h)) = true := h1
        simpa using h1
      rw [h1] at q
      exact q
theorem sc_check_near_form : FnScope ["x", "y", "price"] ["x", "y", "price"] (defScope s_check_near_form) := ⟨rfl, rfl, rfl, by decide +kernel, rfl, by decide +kernel, by decide +kernel⟩
theorem ok_check_near_form {f : Addr} {fd : FuncData} (F : Fun K "check_near_form" "check_near_form" s_check_near_form f fd) (T : TB mg) (c_WORTH_MOST : Con mg "WORTH_MOST" (.int 999999)) (D_is_word : IsDef P w K mg base true 2 "is_word" ["text"] sp_word) (D_is_between : IsDef P w K mg base true 1 "is_between" ["low", "number", "high"] sp_between) (e_BadNear : Er K mg "BadNear" C_BadNear) : FnOk P w K mg base (CXF P w) true 3 f fd ["x", "y", "price"] (sp_form C_BadNear) := by
  refine F.okX sc_check_near_form (fun vs H Q E h => ?_) (fun cdv A outer s H vs Q E hr h hX => ?_)
  · obtain ⟨x, y, p, rfl, _⟩ := h
    rfl
  · obtain ⟨x, y, p, rfl, hx, hy, q⟩ := h
    have bad : formOk x y p = false → ∀ H', Same H H' → E (.ref C_BadNear) none H' := fun e => by rw [e] at q; exact q
    have good : formOk x y p = true → ∀ H', Same H H' → Q .non H' := fun e => by rw [e] at q; exact q
    refine ⟨_, (@pss_cons _ _ _ _ _ (@ps_if _ _ _ _ _ _ _ _ (@PW.pt _ _ _ (@pw_or _ _ _ _ _ _ _ (@pt_not _ _ _ _ (@pt_val _ _ _ (@pe_def _ _ _ _ _ _ _ _ _ _ _ _ D_is_word (hr.mono (by decide)) passF (@pa_c _ _ _ _ _ (pv 0) pa_nil (by rfl)) (by rfl) (by decide) (by rfl) (by rfl)) (by intro _; rfl))) (@pw_or1 _ _ _ _ (@pt_not _ _ _ _ (@pt_val _ _ _ (@pe_def _ _ _ _ _ _ _ _ _ _ _ _ D_is_word (hr.mono (by decide)) passF (@pa_c _ _ _ _ _ (pv 1) pa_nil (by rfl)) (by rfl) (by decide) (by rfl) (by rfl)) (by intro _; rfl)))))) (@pss_one _ _ _ (@ps_raise _ _ _ _ _ _ _ _ _ _ hX (by exact rfl) (by exact rfl) e_BadNear.m e_BadNear.e (@pa_c _ _ _ _ _ pe_str pa_nil (by rfl)) (by decide) (by rfl) (by rfl))) pss_nil) (@pss_cons _ _ _ _ _ (@ps_if _ _ _ _ _ _ _ _ (@pt_cmpR _ _ _ _ _ _ _ _ op_eq (pv 0) (pv 1) (nomark _)) (@pss_one _ _ _ (@ps_raise _ _ _ _ _ _ _ _ _ _ hX (by exact rfl) (by exact rfl) e_BadNear.m e_BadNear.e (@pa_c _ _ _ _ _ pe_str pa_nil (by rfl)) (by decide) (by rfl) (by rfl))) pss_nil) (@pss_one _ _ _ (@ps_if _ _ _ _ _ _ _ _ (@pt_not _ _ _ _ (@pt_val _ _ _ (@pe_def _ _ _ _ _ _ _ _ _ _ _ _ D_is_between (hr.mono (by decide)) passF (@pa_c _ _ _ _ _ pe_int (@pa_c _ _ _ _ _ (pv 2) (@pa_c _ _ _ _ _ (@pe_con' _ _ _ _ c_WORTH_MOST (by rfl) (by decide)) pa_nil (by rfl)) (by rfl)) (by rfl)) (by rfl) (by decide) (by rfl) (by rfl)) (by intro _; rfl))) (@pss_one _ _ _ (@ps_raise _ _ _ _ _ _ _ _ _ _ hX (by exact rfl) (by exact rfl) e_BadNear.m e_BadNear.e (@pa_c _ _ _ _ _ (@pe_joined _ _ _ _ _ _ (@pj_cons _ _ _ _ _ pe_str (@pj_cons _ _ _ _ _ (@pe_fmt _ _ _ _ (@pe_con' _ _ _ _ c_WORTH_MOST (by rfl) (by decide))) pj_nil))) pa_nil (by rfl)) (by decide) (by rfl) (by rfl))) pss_nil)))), ?_⟩
    refine ⟨_, rfl, x, rfl, hx, fun H1 s1 => ⟨_, rfl, ?_⟩⟩
    refine ite2 (fun h1 => ?_) (fun h1 => ?_)
    · have h1 : (!(isW x)) = true := h1
      exact ⟨one_line, bad (by simp [formOk, (Bool.not_eq_true' _).mp h1]) H1 s1⟩
    have h1 : ¬ (!(isW x)) = true := h1
    have h1 : isW x = true := by simpa using h1
    refine ⟨_, rfl, y, rfl, hy, fun H2 s2 => ⟨_, rfl, ?_⟩⟩
    have s2 := s1.trans s2
    refine ite2 (fun h2 => ?_) (fun h2 => ?_)
    · have h2 : (!(isW y)) = true := h2
      exact ⟨one_line, bad (by simp [formOk, (Bool.not_eq_true' _).mp h2]) H2 s2⟩
    have h2 : ¬ (!(isW y)) = true := h2
    have h2 : isW y = true := by simpa using h2
    refine ⟨_, rfl, _, rfl, rfl, _, rfl, ?_⟩
    refine ite2 (fun h3 => ?_) (fun h3 => ?_)
    · have h3 : x = y := by simpa using h3
      exact ⟨one_line, bad (by simp [formOk, h3]) H2 s2⟩
    have h3 : ¬ x = y := by simpa using h3
    refine ⟨_, rfl, 0, p, 999999, rfl, _, rfl, ?_⟩
    refine ite2 (fun h4 => ?_) (fun h4 => ?_)
    · have h4 : (!(inR 0 p 999999)) = true := h4
      have z1 := told_int (i := 999999) (by omega)
      have w1 : (Str.ofString "the price of a near form lies between 0 and ").length = 44 := by decide +kernel
      have w3 := len_empty
      refine ⟨_, rfl, le_line ?_, .inr ⟨999999, rfl, z1.1, _, rfl, le_line ?_, le_line ?_, one_line, ?_⟩⟩
      · rw [len_app]; omega
      · rw [len_app, len_app]; omega
      · rw [len_app, len_app]; omega
      · exact bad (by simp [formOk, (Bool.not_eq_true' _).mp h4]) H2 s2
    · have h4 : ¬ (!(inR 0 p 999999)) = true := h4
      have h4 : inR 0 p 999999 = true := by simpa using h4
      exact good (by simp [formOk, h1, h2, h3, h4]) H2 s2
theorem sc_near_prices : FnScope ["near", "prices", "x", "y", "price"] ["near"] (defScope s_near_prices) := ⟨rfl, rfl, rfl, by decide +kernel, rfl, by decide +kernel, by decide +kernel⟩
theorem ok_near_prices {f : Addr} {fd : FuncData} (F : Fun K "near_prices" "near_prices" s_near_prices f fd) (T : TB mg) (c_NEAR_MOST : Con mg "NEAR_MOST" (.int 60)) (D_check_near_form : IsDef P w K mg base true 3 "check_near_form" ["x", "y", "price"] (sp_form C_BadNear)) (e_BadNear : Er K mg "BadNear" C_BadNear) : FnOk P w K mg base (CXF P w) true 4 f fd ["near"] (sp_prices C_BadNear) := by
  refine F.okX sc_near_prices (fun vs H Q E h => ?_) (fun cdv A outer s H vs Q E hr h hX => ?_)
  · obtain ⟨a, xs, fs, rfl, _⟩ := h
    rfl
  · obtain ⟨a, xs, fs, rfl, ha, ht, hsh, q⟩ := h
    have bad : goodNear fs = false → ∀ H', Same H H' → E (.ref C_BadNear) none H' := fun e => by rw [e] at q; exact q
    have good : goodNear fs = true → ∀ H' d, Same H H' → H d = none → H' d = some (.dT (fs.map kvOf)) → Q (.ref d) H' := fun e => by rw [e] at q; exact q
    have hu := hr.units
    have hu : (A.deeper (PyProof.Rows.envOfC "near_prices" (defScope s_near_prices) s.heap.objs.size f cdv)).units + 1 < cLine := by omega
    refine ⟨_, (@pss_cons _ _ _ _ _ (@ps_if _ _ _ _ _ _ _ _ (@pt_cmpR _ _ _ _ _ _ _ _ op_gt (@pe_callB _ _ _ _ _ _ _ _ _ (call_len_seqK K) (by exact rfl) T.n_len PyProof.Rows.Boot.«len» (@pa_c _ _ _ _ _ (pv 0) pa_nil (by rfl)) (by decide) (by decide) (by rfl) (by rfl)) (@pe_con' _ _ _ _ c_NEAR_MOST (by rfl) (by decide)) (nomark _)) (@pss_one _ _ _ (@ps_raise _ _ _ _ _ _ _ _ _ _ hX (by exact rfl) (by exact rfl) e_BadNear.m e_BadNear.e (@pa_c _ _ _ _ _ (@pe_joined _ _ _ _ _ _ (@pj_cons _ _ _ _ _ pe_str (@pj_cons _ _ _ _ _ (@pe_fmt _ _ _ _ (@pe_con' _ _ _ _ c_NEAR_MOST (by rfl) (by decide))) (@pj_cons _ _ _ _ _ pe_str pj_nil)))) pa_nil (by rfl)) (by decide) (by rfl) (by rfl))) pss_nil) (@pss_cons _ _ _ _ _ (@ps_set _ _ (1) _ _ _ _ sc_near_prices.nd (by exact rfl) (Or.inl rfl) pe_dnewT (by rfl) (by first | exact .inl rfl | exact .inr rfl | assumption)) (@pss_cons _ _ _ _ _ (@ps_for _ _ _ _ _ _ _ _ hX.own (by exact rfl) (@pi_listK _ K _ _ _ (pv 0) (by rfl)) (@pg_tupK _ K _ _ _ (3) _ (by exact rfl) (@pgs_cons _ _ _ _ _ (@pg_name _ _ (2) _ sc_near_prices.nd (by exact rfl) (Or.inl rfl) (by first | exact .inl rfl | exact .inr rfl | assumption)) (@pgs_cons _ _ _ _ _ (@pg_name _ _ (3) _ sc_near_prices.nd (by exact rfl) (Or.inl rfl) (by first | exact .inl rfl | exact .inr rfl | assumption)) (@pgs_cons _ _ _ _ _ (@pg_name _ _ (4) _ sc_near_prices.nd (by exact rfl) (Or.inl rfl) (by first | exact .inl rfl | exact .inr rfl | assumption)) pgs_nil (by rfl)) (by rfl)) (by rfl)) (by rfl) (by rfl) (by rfl)) (@pss_cons _ _ _ _ _ (@ps_expr _ _ _ _ (@pe_def _ _ _ _ _ _ _ _ _ _ _ _ D_check_near_form (hr.mono (by decide)) hX.pass (@pa_c _ _ _ _ _ (pv 2) (@pa_c _ _ _ _ _ (pv 3) (@pa_c _ _ _ _ _ (pv 4) pa_nil (by rfl)) (by rfl)) (by rfl)) (by rfl) (by decide) (by rfl) (by rfl)) (by rfl)) (@pss_cons _ _ _ _ _ (@ps_if _ _ _ _ _ _ _ _ (@pt_cmp _ _ _ _ _ _ (@pc_din _ _ _ _ _ hu (@pe_tup _ _ _ _ _ (@pa_c _ _ _ _ _ (pv 2) (@pa_c _ _ _ _ _ (pv 3) pa_nil (by rfl)) (by rfl))) (pv 1)) (by first | exact nobehind _ (by decide) (by decide) | rfl)) (@pss_one _ _ _ (@ps_raise _ _ _ _ _ _ _ _ _ _ hX (by exact rfl) (by exact rfl) e_BadNear.m e_BadNear.e (@pa_c _ _ _ _ _ pe_str pa_nil (by rfl)) (by decide) (by rfl) (by rfl))) pss_nil) (@pss_one _ _ _ (@ps_dput _ _ _ _ _ _ _ _ _ hu (pv 1) (@pe_tup _ _ _ _ _ (@pa_c _ _ _ _ _ (pv 2) (@pa_c _ _ _ _ _ (pv 3) pa_nil (by rfl)) (by rfl))) (pv 4) (by exact rfl))))) (by intro _; rfl)) (@pss_one _ _ _ (@ps_ret _ _ _ _ (pv 1)))))), ?_⟩
    refine ⟨_, rfl, a, _, rfl, .inl (.of ha), _, _, rfl, rfl, _, rfl, ?_⟩
    refine ite2 (fun h1 => ?_) (fun h1 => ?_)
    · have h1 : (60 : Int) < (xs.length : Int) := by simpa using h1
      rw [ht.1] at h1
      have z1 := told_int (i := 60) (by omega)
      have w1 : (Str.ofString "there are at most ").length = 18 := by decide +kernel
      have w2 : (Str.ofString " near forms").length = 11 := by decide +kernel
      have w3 := len_empty
      refine ⟨_, rfl, le_line ?_, .inr ⟨60, rfl, z1.1, _, rfl, le_line ?_, _, rfl, le_line ?_, le_line ?_, one_line, ?_⟩⟩
      · rw [len_app]; omega
      · rw [len_app, len_app]; omega
      · rw [len_app, len_app, len_app]; omega
      · rw [len_app, len_app, len_app]; omega
      · exact bad (by have : ¬ fs.length ≤ 60 := by omega
                      simp [goodNear, this]) H (.refl H)
    have h1 : ¬ (60 : Int) < (xs.length : Int) := by simpa using h1
    rw [ht.1] at h1
    refine fun d hd => ?_
    have had : H a ≠ none := by rw [ha]; intro z; cases z
    have hne : a ≠ d := ne_of_none ha hd
    refine ⟨_, rfl, a, rfl, ⟨xs, .of (by rw [upd_ne hne]; exact ha)⟩, ?_⟩
    refine for_list (xs := xs) (fun i σ H' => (∃ u v w, σ = [some (.ref a), some (.ref d), u, v, w]) ∧ H' d = some (.dT ((fs.take i).map kvOf)) ∧ Same H H' ∧ ((fs.take i).all fOk = true) ∧ ((fs.take i).map key2).Nodup) ?_ ?_ ?_ ?_
    · exact ⟨⟨_, _, _, rfl⟩, upd_same, Same.upd hd, rfl, .nil⟩
    · rintro i σ H' hi ⟨_, _, s1, _⟩
      exact .of (s1 _ _ ha)
    · rintro i x σ H' hx ⟨⟨u, v, w, rfl⟩, hD, s1, hok, hnd⟩
      have hi : i < fs.length := by rw [← ht.1]; exact (List.getElem?_eq_some_iff.mp hx).1
      have hf : fs[i]? = some fs[i] := by simp [hi]
      generalize fs[i] = f0 at hf
      obtain ⟨t, ht1, ht2⟩ := ht.2 i f0 hf
      rw [hx] at ht1
      cases ht1
      obtain ⟨x, y, p⟩ := f0
      have hm : (x, y, p) ∈ fs := List.mem_of_getElem? hf
      obtain ⟨hx1, hy1⟩ := hsh.2 _ hm
      refine ⟨t, _, rfl, .of (s1 _ _ ht2), rfl, _, _, rfl, _, _, rfl, _, _, rfl, rfl, ?_⟩
      refine ⟨_, rfl, _, rfl, _, rfl, x, y, p, rfl, hx1, hy1, ?_⟩
      refine ite2 (fun h2 => ?_) (fun h2 => ?_)
      rotate_left
      · have h2 : fOk (x, y, p) = false := by simpa [fOk] using h2
        exact fun H2 s2 => bad (bad_form hf h2) H2 (s1.trans s2)
      have h2 : fOk (x, y, p) = true := h2
      intro H2 s2
      have s2' := s1.trans s2
      have hD2 := s2 _ _ hD
      refine ⟨_, rfl, _, rfl, le_line (by simp), fun p1 hp1 => ?_⟩
      have n1 : d ≠ p1 := ne_of_none hD2 hp1
      refine ⟨_, rfl, d, _, rfl, .t (k := key2 (x, y, p)) (by rw [upd_ne n1]; exact hD2) upd_same, _, rfl, ?_⟩
      refine ite2 (fun h3 => ?_) (fun h3 => ?_)
      · obtain ⟨v3, h3⟩ := Option.isSome_iff_exists.mp h3
        exact ⟨one_line, bad (bad_twice hf (kv_yes h3)) _ (s2'.upd2 (s2'.free hp1))⟩
      have h3 : valV ((fs.take i).map kvOf) (key2 (x, y, p)) = none := by simpa using h3
      have s3 : Same H (upd H2 p1 (.tup [.str x, .str y])) := s2'.upd2 (s2'.free hp1)
      refine ⟨_, rfl, _, rfl, _, rfl, _, rfl, le_line (by simp), fun p2 hp2 => ?_⟩
      have hD3 : upd H2 p1 (.tup [.str x, .str y]) d = some (.dT ((fs.take i).map kvOf)) := by rw [upd_ne n1]; exact hD2
      have n2 : d ≠ p2 := ne_of_none hD3 hp2
      have hlen : ((fs.take i).map kvOf).length < sizeLine := lt_line (by rw [List.length_map, List.length_take]; omega)
      refine ⟨d, _, rfl, .t (k := key2 (x, y, p)) (by rw [upd_ne n2]; exact hD3) upd_same hlen, ?_⟩
      refine ⟨⟨_, _, _, rfl⟩, ?_, ?_, ?_, ?_⟩
      · rw [upd_same, putK_new _ h3, good_step hf]; rfl
      · exact (s3.upd2 (s3.free hp2)).upd2 hd
      · rw [List.take_succ, hf, List.all_append, hok]
        simp [h2]
      · rw [List.take_succ, hf, List.map_append]
        have := kv_no h3
        refine List.nodup_append.mpr ⟨hnd, by simp, ?_⟩
        intro a1 ha1 b1 hb1 e
        have hb1 : b1 = key2 (x, y, p) := by simpa using hb1
        rw [e, hb1] at ha1
        exact this ha1
    · rintro σ H' ⟨⟨u, v, w, rfl⟩, hD, s1, hok, hnd⟩
      rw [ht.1, List.take_length] at hD hok hnd
      refine ⟨_, rfl, good ?_ H' d s1 hd hD⟩
      have : fs.length ≤ 60 := by omega
      simp [goodNear, this, hok, hnd]
theorem sc_Terms___init__ : FnScope ["self", "same", "out", "into", "least", "part", "near"] ["self", "same", "out", "into", "least", "part", "near"] (defScope s_Terms___init__) := ⟨rfl, rfl, rfl, by decide +kernel, rfl, by decide +kernel, by decide +kernel⟩
theorem ok_Terms___init__ {f : Addr} {fd : FuncData} (F : FunD K "__init__" "Terms.__init__" s_Terms___init__ f fd) (T : TB mg) (c_WORTH_MOST : Con mg "WORTH_MOST" (.int 999999)) (c_PART_MOST : Con mg "PART_MOST" (.int 100)) (D_check_number : IsDef P w K mg base true 2 "check_number" ["name", "number", "low", "high"] (sp_number C_BadTerms)) (D_near_prices : IsDef P w K mg base true 4 "near_prices" ["near"] (sp_prices C_BadNear)) (Tc : TermsC K C_Terms) : FnOk P w K mg base (CXF P w) true 5 f fd ["self", "same", "out", "into", "least", "part", "near"] (sp_init C_Terms C_BadTerms C_BadNear) := by
  refine F.okX sc_Terms___init__ (fun vs H Q E h => ?_) (fun cdv A outer s H vs Q E hr h hX => ?_)
  · obtain ⟨x, dx, n, nv, xs, fs, rfl, _⟩ := h
    rfl
  · obtain ⟨x, dx, n, nv, xs, fs, rfl, hx, hdx, hnv, hsh, q⟩ := h
    have bad : okNums n = false → E (.ref C_BadTerms) none H := fun e => by rw [e] at q; exact q H .refl
    refine ⟨_, (@pss_cons _ _ _ _ _ (@ps_expr _ _ _ _ (@pe_def _ _ _ _ _ _ _ _ _ _ _ _ D_check_number (hr.mono (by decide)) hX.pass (@pa_c _ _ _ _ _ pe_str (@pa_c _ _ _ _ _ (pv 1) (@pa_c _ _ _ _ _ pe_int (@pa_c _ _ _ _ _ (@pe_con' _ _ _ _ c_WORTH_MOST (by rfl) (by decide)) pa_nil (by rfl)) (by rfl)) (by rfl)) (by rfl)) (by rfl) (by decide) (by rfl) (by rfl)) (by rfl)) (@pss_cons _ _ _ _ _ (@ps_expr _ _ _ _ (@pe_def _ _ _ _ _ _ _ _ _ _ _ _ D_check_number (hr.mono (by decide)) hX.pass (@pa_c _ _ _ _ _ pe_str (@pa_c _ _ _ _ _ (pv 2) (@pa_c _ _ _ _ _ pe_int (@pa_c _ _ _ _ _ (@pe_con' _ _ _ _ c_WORTH_MOST (by rfl) (by decide)) pa_nil (by rfl)) (by rfl)) (by rfl)) (by rfl)) (by rfl) (by decide) (by rfl) (by rfl)) (by rfl)) (@pss_cons _ _ _ _ _ (@ps_expr _ _ _ _ (@pe_def _ _ _ _ _ _ _ _ _ _ _ _ D_check_number (hr.mono (by decide)) hX.pass (@pa_c _ _ _ _ _ pe_str (@pa_c _ _ _ _ _ (pv 3) (@pa_c _ _ _ _ _ pe_int (@pa_c _ _ _ _ _ (@pe_con' _ _ _ _ c_WORTH_MOST (by rfl) (by decide)) pa_nil (by rfl)) (by rfl)) (by rfl)) (by rfl)) (by rfl) (by decide) (by rfl) (by rfl)) (by rfl)) (@pss_cons _ _ _ _ _ (@ps_expr _ _ _ _ (@pe_def _ _ _ _ _ _ _ _ _ _ _ _ D_check_number (hr.mono (by decide)) hX.pass (@pa_c _ _ _ _ _ pe_str (@pa_c _ _ _ _ _ (pv 4) (@pa_c _ _ _ _ _ pe_int (@pa_c _ _ _ _ _ (@pe_con' _ _ _ _ c_WORTH_MOST (by rfl) (by decide)) pa_nil (by rfl)) (by rfl)) (by rfl)) (by rfl)) (by rfl) (by decide) (by rfl) (by rfl)) (by rfl)) (@pss_cons _ _ _ _ _ (@ps_expr _ _ _ _ (@pe_def _ _ _ _ _ _ _ _ _ _ _ _ D_check_number (hr.mono (by decide)) hX.pass (@pa_c _ _ _ _ _ pe_str (@pa_c _ _ _ _ _ (pv 5) (@pa_c _ _ _ _ _ pe_int (@pa_c _ _ _ _ _ (@pe_con' _ _ _ _ c_PART_MOST (by rfl) (by decide)) pa_nil (by rfl)) (by rfl)) (by rfl)) (by rfl)) (by rfl) (by decide) (by rfl) (by rfl)) (by rfl)) (@pss_cons _ _ _ _ _ (@ps_fldK _ K _ _ _ _ _ _ _ (pv 0) (pv 1) (by rfl) (by rfl)) (@pss_cons _ _ _ _ _ (@ps_fldK _ K _ _ _ _ _ _ _ (pv 0) (pv 2) (by rfl) (by rfl)) (@pss_cons _ _ _ _ _ (@ps_fldK _ K _ _ _ _ _ _ _ (pv 0) (pv 3) (by rfl) (by rfl)) (@pss_cons _ _ _ _ _ (@ps_fldK _ K _ _ _ _ _ _ _ (pv 0) (pv 4) (by rfl) (by rfl)) (@pss_cons _ _ _ _ _ (@ps_fldK _ K _ _ _ _ _ _ _ (pv 0) (pv 5) (by rfl) (by rfl)) (@pss_cut _ _ _ _ _ (@ps_fldK _ K _ _ _ _ _ _ _ (pv 0) (@pe_ifExp _ _ _ _ _ _ _ _ (@pt_cmp _ _ _ _ _ _ (@pc_isN _ _ _ _ _ (pv 6)) (by first | exact nobehind _ (by decide) (by decide) | rfl)) (@pe_lst _ _ _ _ pa_nil) (@pe_callTy _ _ _ _ _ _ _ _ _ (call_list_ofK K) (by exact rfl) T.n_list PyProof.Rows.Boot.«list» (@pa_c _ _ _ _ _ (pv 6) pa_nil (by rfl)) (by decide) (by decide) (by rfl) (by rfl))) (by rfl) (by rfl)) (@pss_one _ _ _ (@ps_fldK _ K _ _ _ _ _ _ _ (pv 0) (@pe_def _ _ _ _ _ _ _ _ _ _ _ _ D_near_prices (hr.mono (by decide)) hX.pass (@pa_c _ _ _ _ _ (@pe_fldK _ K _ _ _ _ (pv 0) (by rfl) (by rfl)) pa_nil (by rfl)) (by rfl) (by decide) (by rfl) (by rfl)) (by rfl) (by rfl)))))))))))))), ?_⟩
    refine ⟨_, rfl, "same", n.same, 1, 999999, rfl, by decide +kernel, by omega, by omega, ?_⟩
    refine ite2 (fun h1 => ?_) (fun h1 => bad (by simp [okNums, h1]))
    refine ⟨_, rfl, "out", n.out, 0, 999999, rfl, by decide +kernel, by omega, by omega, ?_⟩
    refine ite2 (fun h2 => ?_) (fun h2 => bad (by simp [okNums, h2]))
    refine ⟨_, rfl, "into", n.into, 0, 999999, rfl, by decide +kernel, by omega, by omega, ?_⟩
    refine ite2 (fun h3 => ?_) (fun h3 => bad (by simp [okNums, h3]))
    refine ⟨_, rfl, "least", n.least, 1, 999999, rfl, by decide +kernel, by omega, by omega, ?_⟩
    refine ite2 (fun h4 => ?_) (fun h4 => bad (by simp [okNums, h4]))
    refine ⟨_, rfl, "part", n.part, 1, 100, rfl, by decide +kernel, by omega, by omega, ?_⟩
    refine ite2 (fun h5 => ?_) (fun h5 => bad (by simp [okNums, h5]))
    have hok : okNums n = true := by simp [okNums, h1, h2, h3, h4, h5]
    rw [hok] at q
    have hl : ∀ k : Nat, k < 10 → k < 1000 := fun k h => by omega
    refine ⟨_, rfl, _, rfl, x, C_Terms, dx, _, rfl, hx, Tc.cl, Tc.same, by decide, ?_⟩
    refine ⟨_, rfl, _, rfl, x, C_Terms, dx, _, rfl, upd_same, Tc.cl, Tc.out, ?_, ?_⟩
    · exact hl _ (by have := length_putF "same" (.int n.same) []; simp at this; omega)
    refine ⟨_, rfl, _, rfl, x, C_Terms, dx, _, rfl, upd_same, Tc.cl, Tc.into, ?_, ?_⟩
    · exact hl _ (Nat.lt_of_le_of_lt (length_putF _ _ _) (by have := length_putF "same" (.int n.same) []; simp at this; omega))
    refine ⟨_, rfl, _, rfl, x, C_Terms, dx, _, rfl, upd_same, Tc.cl, Tc.least, ?_, ?_⟩
    · show ([("same", .int n.same), ("out", .int n.out), ("into", .int n.into)] : List (Str × V)).length < 1000
      simp
    refine ⟨_, rfl, _, rfl, x, C_Terms, dx, _, rfl, upd_same, Tc.cl, Tc.part, ?_, ?_⟩
    · show ([("same", .int n.same), ("out", .int n.out), ("into", .int n.into), ("least", .int n.least)] : List (Str × V)).length < 1000
      simp
    rw [upd_upd, upd_upd, upd_upd, upd_upd, put5]
    have b5 : SameBut x H (upd H x (.ins C_Terms dx (flds5 n))) := SameBut.refl.upd
    refine ⟨fun σ H' => σ = [some (.ref x), some (.int n.same), some (.int n.out), some (.int n.into), some (.int n.least), some (.int n.part), some nv] ∧ ∃ l, H' x = some (.ins C_Terms dx (putF "near" (.ref l) (flds5 n))) ∧ SameBut x H H' ∧ H' l = some (.lst xs) ∧ Trips H' xs fs ∧ H l = none, ?_, ?_⟩
    · refine ⟨_, rfl, _, rfl, ?_⟩
      rcases hnv with ⟨rfl, rfl, rfl⟩ | ⟨a, rfl, ha, htr⟩
      · refine iteT ?_
        refine ⟨le_line (by simp), fun l hl1 => ?_⟩
        have n1 : x ≠ l := ne_of_none upd_same hl1
        refine ⟨_, rfl, x, C_Terms, dx, _, rfl, by rw [upd_ne n1, upd_same], Tc.cl, Tc.near, by simp [flds5], rfl, l, upd_same, ?_, ?_, .nil, ?_⟩
        · exact (b5.laid (b5.free upd_same hl1)).upd
        · rw [upd_ne (Ne.symm n1), upd_same]
        · exact b5.free upd_same hl1
      · refine ite2 (fun hh => absurd hh (by simp)) (fun _ => ?_)
        have n0 : a ≠ x := ne_of ha hx (by intro z; cases z)
        refine ⟨_, rfl, a, xs, rfl, .inl (.of (by rw [upd_ne n0]; exact ha)), fun l hl1 => ?_⟩
        have n1 : x ≠ l := ne_of_none upd_same hl1
        have b6 : SameBut x H (upd (upd H x (.ins C_Terms dx (flds5 n))) l (.lst xs)) := b5.laid (b5.free upd_same hl1)
        refine ⟨_, rfl, x, C_Terms, dx, _, rfl, by rw [upd_ne n1, upd_same], Tc.cl, Tc.near, by simp [flds5], rfl, l, upd_same, b6.upd, ?_, ?_, ?_⟩
        · rw [upd_ne (Ne.symm n1), upd_same]
        · exact htr.but b6.upd hx
        · exact b5.free upd_same hl1
    · rintro σ H' ⟨rfl, l, hx', sb, hl', htr, hln⟩
      refine ⟨_, rfl, x, C_Terms, dx, _, _, rfl, hx', Tc.cl, Tc.near, near5 n l, l, xs, fs, rfl, hl', htr, hsh, ?_⟩
      refine ite2 (fun h6 => ?_) (fun h6 => ?_)
      · rw [if_pos rfl, if_pos h6] at q
        intro H2 d s2 hd hD
        have b2 := sb.same s2
        have hdn := sb.free hx' hd
        refine ⟨_, rfl, x, C_Terms, dx, _, rfl, s2 _ _ hx', Tc.cl, Tc.prices, ?_, ?_⟩
        · have := length_putF "near" (.ref l) (flds5 n)
          have e5 : (flds5 n).length = 5 := rfl
          exact hl _ (by omega)
        · have nl : l ≠ x := ne_of hl' hx' (by intro z; cases z)
          have nd : d ≠ x := ne_of hD (s2 _ _ hx') (by intro z; cases z)
          have ndx : dx ≠ x := ne_of hdx hx (by intro z; cases z)
          refine q _ l d b2.upd ⟨?_, ?_, ?_, ?_, ?_⟩ hln hdn
          · rw [upd_same, put7]
          · rw [upd_ne ndx]; exact b2 _ _ ndx hdx
          · rw [upd_ne nl]; exact s2 _ _ hl'
          · exact htr.but (SameBut.upd (fun b u n e => s2 b u e)) hx'
          · rw [upd_ne nd]; exact hD
      · rw [if_pos rfl, if_neg h6] at q
        exact fun H2 s2 => q H2 (sb.same s2)
theorem sc_Terms_pair_worth : FnScope ["self", "x", "y", "price"] ["self", "x", "y"] (defScope s_Terms_pair_worth) := ⟨rfl, rfl, rfl, by decide +kernel, rfl, by decide +kernel, by decide +kernel⟩
theorem ok_Terms_pair_worth {f : Addr} {fd : FuncData} (F : FunD K "pair_worth" "Terms.pair_worth" s_Terms_pair_worth f fd) (T : TB mg) (Tc : TermsC K C_Terms) : FnOk P w K mg base (CXF P w) true 1 f fd ["self", "x", "y"] (sp_pair C_Terms) := by
  refine F.okX sc_Terms_pair_worth (fun vs H Q E h => ?_) (fun cdv A outer s H vs Q E hr h hX => ?_)
  · obtain ⟨t, x, y, n, fs, dx, l, d, xs, rfl, _⟩ := h
    rfl
  · obtain ⟨t, x, y, n, fs, dx, l, d, xs, rfl, T1, q⟩ := h
    have hu := hr.units
    have hu : (A.deeper (PyProof.Rows.envOfC "Terms.pair_worth" (defScope s_Terms_pair_worth) s.heap.objs.size f cdv)).units + 1 < cLine := by omega
    refine ⟨_, (@pss_cons _ _ _ _ _ (@ps_if _ _ _ _ _ _ _ _ (@pt_cmpR _ _ _ _ _ _ _ _ op_eq (pv 1) (pv 2) (nomark _)) (@pss_one _ _ _ (@ps_ret _ _ _ _ (@pe_fldK _ K _ _ _ _ (pv 0) (by rfl) (by rfl)))) pss_nil) (@pss_cons _ _ _ _ _ (@ps_set _ _ (3) _ _ _ _ sc_Terms_pair_worth.nd (by exact rfl) (Or.inl rfl) (@pe_dget1 _ _ _ _ _ _ _ hu (@pe_fldK _ K _ _ _ _ (pv 0) (by rfl) (by rfl)) (@pe_tup _ _ _ _ _ (@pa_c _ _ _ _ _ (pv 1) (@pa_c _ _ _ _ _ (pv 2) pa_nil (by rfl)) (by rfl))) ⟨rfl, rfl, rfl, rfl⟩) (by rfl) (by first | exact .inl rfl | exact .inr rfl | assumption)) (@pss_cons _ _ _ _ _ (@ps_if _ _ _ _ _ _ _ _ (@pt_cmp _ _ _ _ _ _ (@pc_isN _ _ _ _ _ (pv 3)) (by first | exact nobehind _ (by decide) (by decide) | rfl)) (@pss_one _ _ _ (@ps_ret _ _ _ _ pe_non)) pss_nil) (@pss_one _ _ _ (@ps_ret _ _ _ _ (@pe_op _ _ _ _ _ _ _ _ op_sub (@pe_fldK _ K _ _ _ _ (pv 0) (by rfl) (by rfl)) (pv 3))))))), ?_⟩
    refine ⟨_, rfl, _, rfl, rfl, _, rfl, ?_⟩
    refine ite2 (fun h => ?_) (fun h => ?_)
    · have h : x = y := by simpa using h
      have q := q H (.refl H)
      rw [show pairW n.same fs x y = some n.same by simp [pairW, h]] at q
      exact ⟨_, rfl, t, C_Terms, dx, _, _, rfl, T1.ob, Tc.cl, Tc.same, l_same n l d, q⟩
    have h : ¬ x = y := by simpa using h
    refine ⟨_, rfl, t, C_Terms, dx, _, _, rfl, T1.ob, Tc.cl, Tc.prices, l_prices n l d, d, rfl, .inr ⟨_, .inl T1.di⟩, _, rfl, _, rfl, le_line (by simp), fun p hp => ?_⟩
    have nd : d ≠ p := ne_of_none T1.di hp
    have q := q _ (Same.upd (o := .tup [.str x, .str y]) hp)
    refine ⟨_, .t (k := [.inr x, .inr y]) (by rw [upd_ne nd]; exact T1.di) upd_same, ?_⟩
    rw [val_price]
    have T2 : TermsAt (upd H p (.tup [.str x, .str y])) C_Terms t n fs dx l d xs := ⟨Same.upd hp _ _ T1.ob, Same.upd hp _ _ T1.own, Same.upd hp _ _ T1.li, T1.tr.same (Same.upd hp), Same.upd hp _ _ T1.di⟩
    cases e : priceOf fs x y with
    | none =>
      rw [show pairW n.same fs x y = none by simp [pairW, h, e]] at q
      refine ⟨_, rfl, _, rfl, ?_⟩
      exact iteT q
    | some v =>
      rw [show pairW n.same fs x y = some (n.same - v) by simp [pairW, h, e]] at q
      refine ⟨_, rfl, _, rfl, ?_⟩
      refine ite2 (fun hh => absurd hh (by simp)) (fun _ => ?_)
      exact ⟨_, rfl, t, C_Terms, dx, _, _, rfl, T2.ob, Tc.cl, Tc.same, l_same n l d, _, rfl, _, _, rfl, rfl, q⟩
theorem sc_is_answer : FnScope ["word", "told_word", "terms"] ["word", "told_word", "terms"] (defScope s_is_answer) := ⟨rfl, rfl, rfl, by decide +kernel, rfl, by decide +kernel, by decide +kernel⟩
theorem ok_is_answer {f : Addr} {fd : FuncData} (F : Fun K "is_answer" "is_answer" s_is_answer f fd) (T : TB mg) (M_Terms_pair_worth : IsMeth P w K mg base true 1 C_Terms "pair_worth" ["self", "x", "y"] (sp_pair C_Terms)) (Tc : TermsC K C_Terms) : FnOk P w K mg base (CXF P w) true 2 f fd ["word", "told_word", "terms"] (sp_answer C_Terms) := by
  refine F.okX sc_is_answer (fun vs H Q E h => ?_) (fun cdv A outer s H vs Q E hr h hX => ?_)
  · obtain ⟨te, x, t, n, fs, dx, l, d, xs, rfl, _⟩ := h
    rfl
  · obtain ⟨te, x, t, n, fs, dx, l, d, xs, rfl, T1, q⟩ := h
    refine ⟨_, (@pss_one _ _ _ (@ps_ret _ _ _ _ (@pe_or _ _ _ _ _ _ _ (@pe_cmp _ _ _ _ _ _ (@pc_notN _ _ _ _ _ (@pe_methD _ _ _ _ _ _ _ _ _ _ _ _ _ _ _ _ (pv 2) M_Terms_pair_worth (hr.mono (by decide)) passF (@pa_c _ _ _ _ _ (pv 0) (@pa_c _ _ _ _ _ (pv 1) pa_nil (by rfl)) (by rfl)) (by rfl) (by rfl) (by rfl))) (by first | exact nobehind _ (by decide) (by decide) | rfl)) (@pe_one _ _ _ _ _ (@pe_cmp _ _ _ _ _ _ (@pc_notN _ _ _ _ _ (@pe_methD _ _ _ _ _ _ _ _ _ _ _ _ _ _ _ _ (pv 2) M_Terms_pair_worth (hr.mono (by decide)) passF (@pa_c _ _ _ _ _ (pv 1) (@pa_c _ _ _ _ _ (pv 0) pa_nil (by rfl)) (by rfl)) (by rfl) (by rfl) (by rfl))) (by first | exact nobehind _ (by decide) (by decide) | rfl)))))), ?_⟩
    refine ⟨_, rfl, te, dx, _, rfl, T1.ob, l_pair_worth n l d, _, rfl, _, rfl, te, x, t, n, fs, dx, l, d, xs, rfl, T1, fun H1 s1 => ⟨_, rfl, ?_⟩⟩
    have e := ans_pair (same := n.same) (fs := fs) (x := x) (t := t)
    refine ite2 (fun h1 => ?_) (fun h1 => ?_)
    · have h1 : (pairW n.same fs x t).isSome = true := by cases z : pairW n.same fs x t <;> simp_all [optV]
      rw [h1, Bool.true_or] at e
      have q := q H1 s1
      rw [← e] at q
      exact q
    have h1 : (pairW n.same fs x t).isSome = false := by cases z : pairW n.same fs x t <;> simp_all [optV]
    have T2 := T1.same s1
    refine ⟨_, rfl, te, dx, _, rfl, T2.ob, l_pair_worth n l d, _, rfl, _, rfl, te, t, x, n, fs, dx, l, d, xs, rfl, T2, fun H2 s2 => ?_⟩
    have q := q H2 (s1.trans s2)
    rw [h1, Bool.false_or] at e
    rw [← e] at q
    cases z : pairW n.same fs t x <;> rw [z] at q <;> exact q
theorem sc_near_stretches : FnScope ["words", "told", "within", "terms", "stretches", "latest", "low_before", "high", "word", "low"] ["words", "told", "within", "terms"] (defScope s_near_stretches) := ⟨rfl, rfl, rfl, by decide +kernel, rfl, by decide +kernel, by decide +kernel⟩
theorem ok_near_stretches {f : Addr} {fd : FuncData} (F : Fun K "near_stretches" "near_stretches" s_near_stretches f fd) (T : TB mg) (D_is_answer : IsDef P w K mg base true 2 "is_answer" ["word", "told_word", "terms"] (sp_answer C_Terms)) (n_zip : mg "zip" = none) : FnOk P w K mg base (CXF P w) true 3 f fd ["words", "told", "within", "terms"] (sp_stretch C_Terms) := by
  refine F.okX sc_near_stretches (fun vs H Q E h => ?_) (fun cdv A outer s H vs Q E hr h hX => ?_)
  · obtain ⟨b, w, te, c, n, dx, l, d, xs, rfl, _⟩ := h
    rfl
  · obtain ⟨b, w, te, c, n, dx, l, d, xs, rfl, hb, hw, hne, ht, hl, T1, q⟩ := h
    refine ⟨_, (@pss_cut _ _ _ _ _ (@ps_set _ _ (4) _ _ _ _ sc_near_stretches.nd (by exact rfl) (Or.inl rfl) (@pe_lst _ _ _ _ pa_nil) (by rfl) (by first | exact .inl rfl | exact .inr rfl | assumption)) (@pss_cut _ _ _ _ _ (@ps_comp _ _ _ _ _ _ _ _ _ _ _ _ _ _ _ (5) _ _ (by exact rfl) sc_near_stretches.nd (by exact rfl) (by exact rfl) (show CompScope ["words", "told", "within", "terms", "stretches", "latest", "low_before", "high", "word", "low"] (defScope s_near_stretches) _ ["told_word"] [] [] from ⟨rfl, by decide +kernel, by decide +kernel, by decide +kernel, rfl, rfl, by decide +kernel, by decide +kernel, by decide +kernel⟩) (@pi_listK _ K _ _ _ (pv 1) (by rfl)) (fun _ _ _ _ _ => (@pg_name _ _ (0) _ (show (["told_word"] : List Str).Nodup by decide +kernel) (by exact rfl) (Or.inl rfl) (by first | exact .inl rfl | exact .inr rfl | assumption))) (fun _ _ _ _ _ => pts_nil) (fun _ _ _ _ _ => (@pe_un _ _ _ _ _ _ un_neg pe_int)) (by rfl) (by intro _; rfl)) (@pss_cut _ _ _ _ _ (@ps_set _ _ (6) _ _ _ _ sc_near_stretches.nd (by exact rfl) (Or.inl rfl) (@pe_un _ _ _ _ _ _ un_neg pe_int) (by rfl) (by first | exact .inl rfl | exact .inr rfl | assumption)) (@pss_cut _ _ _ _ _ (@ps_for _ _ _ _ _ _ _ _ hX.own (by exact rfl) (@pi_enumK _ K _ _ _ _ _ _ _ (by exact rfl) T.n_enumerate (@pa_c _ _ _ _ _ (pv 0) pa_nil (by rfl)) (by rfl) (by rfl)) (@pg_tupK _ K _ _ _ (2) _ (by exact rfl) (@pgs_cons _ _ _ _ _ (@pg_name _ _ (7) _ sc_near_stretches.nd (by exact rfl) (Or.inr rfl) (by first | exact .inl rfl | exact .inr rfl | assumption)) (@pgs_cons _ _ _ _ _ (@pg_name _ _ (8) _ sc_near_stretches.nd (by exact rfl) (Or.inr rfl) (by first | exact .inl rfl | exact .inr rfl | assumption)) pgs_nil (by rfl)) (by rfl)) (by rfl) (by rfl) (by rfl)) (@pss_cut _ _ _ _ _ (@ps_comp _ _ _ _ _ _ _ _ _ _ _ _ _ _ _ (5) _ _ (by exact rfl) sc_near_stretches.nd (by exact rfl) (by exact rfl) (show CompScope ["words", "told", "within", "terms", "stretches", "latest", "low_before", "high", "word", "low"] (defScope s_near_stretches) _ ["told_word", "place"] [8, 3, 7] ["word", "terms", "high"] from ⟨rfl, by decide +kernel, by decide +kernel, by decide +kernel, rfl, rfl, by decide +kernel, by decide +kernel, by decide +kernel⟩) (@pi_zipK _ K _ _ _ _ _ _ _ _ (by exact rfl) n_zip (@pa_c _ _ _ _ _ (pv 1) (@pa_c _ _ _ _ _ (pv 5) pa_nil (by rfl)) (by rfl)) (by rfl) (by rfl) (by rfl)) (fun _ _ _ _ _ => (@pg_tupK _ K _ _ _ (2) _ (by exact rfl) (@pgs_cons _ _ _ _ _ (@pg_name _ _ (0) _ (show (["told_word", "place", "word", "terms", "high"] : List Str).Nodup by decide +kernel) (by exact rfl) (Or.inl rfl) (by first | exact .inl rfl | exact .inr rfl | assumption)) (@pgs_cons _ _ _ _ _ (@pg_name _ _ (1) _ (show (["told_word", "place", "word", "terms", "high"] : List Str).Nodup by decide +kernel) (by exact rfl) (Or.inl rfl) (by first | exact .inl rfl | exact .inr rfl | assumption)) pgs_nil (by rfl)) (by rfl)) (by rfl) (by rfl) (by rfl))) (fun _ _ _ _ _ => pts_nil) (fun _ _ _ _ _ => (@pe_ifExp _ _ _ _ _ _ _ _ (@pt_val _ _ _ (@pe_def _ _ _ _ _ _ _ _ _ _ _ _ D_is_answer (hr.mono (by decide)) passF (@pa_c _ _ _ _ _ (pv 2) (@pa_c _ _ _ _ _ (pv 0) (@pa_c _ _ _ _ _ (pv 3) pa_nil (by rfl)) (by rfl)) (by rfl)) (by rfl) (by decide) (by rfl) (by rfl)) (by intro _; rfl)) (pv 4) (pv 1))) (by rfl) (by intro _; rfl)) (@pss_cut _ _ _ _ _ (@ps_set _ _ (9) _ _ _ _ sc_near_stretches.nd (by exact rfl) (Or.inl rfl) (@pe_callB _ _ _ _ _ _ _ _ _ (call_min1K K rfl) (by exact rfl) T.n_min PyProof.Rows.Boot.«min» (@pa_c _ _ _ _ _ (pv 5) pa_nil (by rfl)) (by decide) (by decide) (by rfl) (by rfl)) (by rfl) (by first | exact .inl rfl | exact .inr rfl | assumption)) (@pss_cut _ _ _ _ _ (@ps_if _ _ _ _ _ _ _ _ (@PW.pt _ _ _ (@pw_and _ _ _ _ _ _ _ (@pt_cmpR _ _ _ _ _ _ _ _ op_gt (pv 9) (pv 6) (nomark _)) (@pw_and1 _ _ _ _ (@pt_cmpR _ _ _ _ _ _ _ _ op_lt (@pe_op _ _ _ _ _ _ _ _ op_sub (pv 7) (pv 9)) (pv 2) (nomark _))))) (@pss_one _ _ _ (@ps_expr _ _ _ _ (@pe_bmK _ K _ _ _ _ _ _ _ _ _ _ _ PySem.F.plainAttrs_list PySem.F.slot_list_append PySem.F.type_list_append mt_append (pv 4) (@pa_c _ _ _ _ _ (@pe_tup _ _ _ _ _ (@pa_c _ _ _ _ _ (pv 9) (@pa_c _ _ _ _ _ (pv 7) pa_nil (by rfl)) (by rfl))) pa_nil (by rfl)) (by rfl) (by rfl) (by rfl) (by rfl) (by rfl) (by rfl)) (by rfl))) pss_nil) (@pss_one _ _ _ (@ps_set _ _ (6) _ _ _ _ sc_near_stretches.nd (by exact rfl) (Or.inl rfl) (pv 9) (by rfl) (by first | exact .inl rfl | exact .inr rfl | assumption)))))) (by intro _; rfl)) (@pss_one _ _ _ (@ps_ret _ _ _ _ (pv 4))))))), ?_⟩
    refine ⟨fun σ H1 => ∃ r, σ = [some (.ref b), some (.ref w), some (.int c.span), some (.ref te), some (.ref r), none, none, none, none, none] ∧ H r = none ∧ H1 = upd H r (.lst []), ?_, ?_⟩
    · exact ⟨le_line (by simp), fun r hr => ⟨r, rfl, hr, rfl⟩⟩
    rintro σ H1 ⟨r, rfl, hr, rfl⟩
    have s1 : Same H (upd H r (.lst [])) := Same.upd hr
    refine ⟨fun σ H2 => ∃ g, σ = [some (.ref b), some (.ref w), some (.int c.span), some (.ref te), some (.ref r), some (.ref g), none, none, none, none] ∧ Same H H2 ∧ H2 r = some (.lst []) ∧ H2 g = some (.lst ((c.lasts 0).map V.int)) ∧ g ≠ r, ?_, ?_⟩
    · refine ⟨_, rfl, w, rfl, ⟨_, .of (s1 _ _ hw)⟩, fun D hD => ?_⟩
      have hDr : D ≠ r := fun z => by subst z; rw [upd_same] at hD; cases hD
      refine comp_list (xs := c.ts.map V.str) (fun i ys σ H' => (∃ u, σ = [u]) ∧ ys = (c.ts.take i).map (fun _ => V.int (-1)) ∧ H' = upd (upd H r (.lst [])) D (.lst ys)) ⟨⟨_, rfl⟩, rfl, rfl⟩ ?_ ?_ ?_
      · rintro i ys σ H' hi ⟨_, _, rfl⟩
        exact .of (Same.upd hD _ _ (s1 _ _ hw))
      · rintro i x ys σ H' hx ⟨⟨u, rfl⟩, hy, rfl⟩
        have hi : i < c.ts.length := by simpa using (List.getElem?_eq_some_iff.mp hx).1
        refine gN_yes ?_
        refine ⟨_, rfl, upd_same, ?_, ⟨_, rfl⟩, ?_, ?_⟩
        · rw [hy, List.length_map, List.length_take]; exact lt_line (by omega)
        · have e1 : c.ts[i]? = some c.ts[i] := by simp [hi]
          rw [hy, List.take_succ, e1, List.map_append]; rfl
        · rw [upd_upd]
      · rintro ys σ H' ⟨_, hy, rfl⟩
        rw [List.length_map, List.take_length] at hy
        refine ⟨D, rfl, s1.trans (Same.upd hD), by rw [upd_ne (Ne.symm hDr)]; exact upd_same, ?_, hDr⟩
        rw [upd_same, hy]
        simp [NS.lasts, lastA]
    rintro σ H2 ⟨g, rfl, s2, hr2, hg2, hgr⟩
    refine ⟨fun σ H3 => σ = [some (.ref b), some (.ref w), some (.int c.span), some (.ref te), some (.ref r), some (.ref g), some (.int (c.low 0)), none, none, none] ∧ H3 = H2, ?_, ?_⟩
    · refine ⟨_, rfl, ?_⟩
      rw [c.low0 hne]
      exact ⟨rfl, rfl⟩
    rintro σ H3 ⟨rfl, rfl⟩
    refine ⟨fun σ H4 => ∃ u1 u2 u3 u4 us, σ = [some (.ref b), some (.ref w), some (.int c.span), some (.ref te), some (.ref r), u1, u2, u3, u4, us] ∧ Same H H4 ∧ ∃ vs, H4 r = some (.lst vs) ∧ Prs H4 vs (c.told c.ws.length), ?_, ?_⟩
    rotate_left
    · rintro σ H4 ⟨u1, u2, u3, u4, us, rfl, s4, vs, hr4, P4⟩
      exact ⟨_, rfl, q H4 r vs s4 hr hr4 P4⟩
    refine ⟨_, rfl, b, rfl, ⟨_, .of (s2 _ _ hb)⟩, ?_⟩
    refine for_enum (xs := c.ws.map V.str) (fun i σ H' => (∃ g u3 u4 u5, σ = [some (.ref b), some (.ref w), some (.int c.span), some (.ref te), some (.ref r), some (.ref g), some (.int (c.low i)), u3, u4, u5] ∧ H' g = some (.lst ((c.lasts i).map V.int)) ∧ g ≠ r) ∧ Same H H' ∧ ∃ vs, H' r = some (.lst vs) ∧ Prs H' vs (c.told i) ∧ vs.length ≤ i) ?_ ?_ ?_ ?_
    · exact ⟨⟨g, _, _, _, rfl, hg2, hgr⟩, s2, [], hr2, .nil, Nat.le_refl _⟩
    · rintro i σ H' hi ⟨_, s3, _⟩
      exact .of (s3 _ _ hb)
    · rintro i x tt σ H' hx ⟨⟨g1, u3, u4, u5, rfl, hg1, hgr1⟩, s3, vs, hr3, P3, hv3⟩ hT
      obtain ⟨x, hxw, rfl⟩ := word_at hx
      have hi : i < c.ws.length := (List.getElem?_eq_some_iff.mp hxw).1
      have s4 : Same H (upd H' tt (.tup [.int i, .str x])) := s3.trans (Same.upd hT)
      have hg4 := Same.upd (o := .tup [.int i, .str x]) hT _ _ hg1
      have hr4 := Same.upd (o := .tup [.int i, .str x]) hT _ _ hr3
      have P4 : Prs (upd H' tt (.tup [.int i, .str x])) vs (c.told i) := P3.same (Same.upd hT)
      refine ⟨tt, _, rfl, .of upd_same, rfl, _, _, rfl, _, _, rfl, rfl, ?_⟩
      generalize upd H' tt (.tup [.int i, .str x]) = Ha at s4 hg4 hr4 P4
      clear hT hg1 hr3 P3 s3 H'
      refine ⟨fun σ Hb => ∃ g2, σ = [some (.ref b), some (.ref w), some (.int c.span), some (.ref te), some (.ref r), some (.ref g2), some (.int (c.low i)), some (.int i), some (.str x), u5] ∧ Same H Hb ∧ Hb r = some (.lst vs) ∧ Prs Hb vs (c.told i) ∧ Hb g2 = some (.lst ((c.lasts (i + 1)).map V.int)) ∧ g2 ≠ r, ?_, ?_⟩
      · refine ⟨_, rfl, _, rfl, w, g1, rfl, ⟨_, .of (s4 _ _ hw)⟩, ⟨_, .of hg4⟩, fun D hD => ?_⟩
        have hDr : D ≠ r := fun z => by subst z; rw [hr4] at hD; cases hD
        have hDg : D ≠ g1 := fun z => by subst z; rw [hg4] at hD; cases hD
        have el : (c.ts.map V.str).length = ((c.lasts i).map V.int).length := by simp [NS.lasts]
        refine comp_zip (xs := c.ts.map V.str) (zs := (c.lasts i).map V.int) el (fun k ys σ H' => (∃ u v, σ = [u, v, some (.str x), some (.ref te), some (.int i)]) ∧ ys = ((c.lasts (i + 1)).take k).map V.int ∧ Same Ha H' ∧ H' D = some (.lst ys)) ⟨⟨_, _, rfl⟩, rfl, Same.upd hD, upd_same⟩ ?_ ?_ ?_
        · rintro k ys σ H' hk ⟨_, _, s5, _⟩
          exact ⟨.of (s5 _ _ (s4 _ _ hw)), .of (s5 _ _ hg4)⟩
        · rintro k y z T2 ys σ H' hy hz ⟨⟨u, v, rfl⟩, hys, s5, hD5⟩ hT2
          obtain ⟨t, htw, rfl⟩ := word_at hy
          have hk : k < c.ts.length := (List.getElem?_eq_some_iff.mp htw).1
          have hz' : z = .int (lastA (c.p t) i) := by
            unfold NS.lasts at hz
            rw [List.getElem?_map, List.getElem?_map, htw] at hz
            exact (Option.some.inj hz).symm
          subst hz'
          have s6 : Same Ha (upd H' T2 (.tup [.str t, .int (lastA (c.p t) i)])) := s5.trans (Same.upd hT2)
          have hD6 := Same.upd (o := .tup [.str t, .int (lastA (c.p t) i)]) hT2 _ _ hD5
          refine ⟨T2, _, rfl, .of upd_same, rfl, _, _, rfl, _, _, rfl, rfl, ?_⟩
          refine tYes_if ?_
          have hlen : ys.length < sizeLine := by rw [hys, List.length_map, List.length_take]; exact lt_line (by simp [NS.lasts]; omega)
          have hnext : ∀ v : Int, v = lastA (c.p t) (i + 1) → ys ++ [V.int v] = ((c.lasts (i + 1)).take (k + 1)).map V.int := fun v e => by
            rw [hys, List.take_succ, e]
            simp [NS.lasts, htw]
          have hp : c.p t i = ansW c.fs x t := by unfold NS.p; rw [hxw]
          refine ⟨_, rfl, _, rfl, _, rfl, te, x, t, n, c.fs, dx, l, d, xs, rfl, (T1.same s4).same s6, fun H7 s7 => ⟨_, rfl, ?_⟩⟩
          have s8 : Same Ha H7 := s6.trans s7
          have hD7 := s7 _ _ hD6
          refine ite2 (fun ha => ?_) (fun ha => ?_)
          · have ha : ansW c.fs x t = true := by simpa using ha
            exact ⟨_, rfl, hD7, hlen, ⟨_, _, rfl⟩, hnext _ (by unfold lastA; rw [hp, if_pos ha]), s8.upd2 hD, upd_same⟩
          · have ha : ¬ ansW c.fs x t = true := by simpa using ha
            exact ⟨_, rfl, hD7, hlen, ⟨_, _, rfl⟩, hnext _ (by show _ = if c.p t i = true then _ else _; rw [hp, if_neg ha]), s8.upd2 hD, upd_same⟩
        · rintro ys σ H' ⟨_, hys, s5, hD5⟩
          refine ⟨D, rfl, s4.trans s5, s5 _ _ hr4, P4.same s5, ?_, hDr⟩
          rw [hD5, hys, List.take_of_length_le (by simp [NS.lasts])]
      rintro σ Hb ⟨g2, rfl, s5, hr5, P5, hg5, hgr2⟩
      clear hg4 hr4 P4 s4 hgr1 Ha
      refine ⟨fun σ Hc => σ = [some (.ref b), some (.ref w), some (.int c.span), some (.ref te), some (.ref r), some (.ref g2), some (.int (c.low i)), some (.int i), some (.str x), some (.int (c.low (i + 1)))] ∧ Hc = Hb, ?_, ?_⟩
      · refine ⟨_, rfl, g2, c.lasts (i + 1), rfl, .of hg5, by simp [NS.lasts]; omega, fun M h1 h2 => ?_⟩
        rw [c.low_of h1 h2]
        exact ⟨rfl, rfl⟩
      rintro σ Hc ⟨rfl, rfl⟩
      refine ⟨fun σ Hd => σ = [some (.ref b), some (.ref w), some (.int c.span), some (.ref te), some (.ref r), some (.ref g2), some (.int (c.low i)), some (.int i), some (.str x), some (.int (c.low (i + 1)))] ∧ Same H Hd ∧ (∃ vs, Hd r = some (.lst vs) ∧ Prs Hd vs (c.told (i + 1)) ∧ vs.length ≤ i + 1) ∧ Hd g2 = some (.lst ((c.lasts (i + 1)).map V.int)), ?_, ?_⟩
      · have no : ¬ (c.low i < c.low (i + 1) ∧ (i : Int) - c.low (i + 1) < c.span) → Prs Hc vs (c.told (i + 1)) := fun hn => by
          rw [c.told_succ, show c.at_ i = none by unfold NS.at_; rw [if_neg hn]]
          simpa using P5
        refine ⟨_, rfl, _, rfl, _, _, rfl, rfl, _, rfl, ?_⟩
        refine ite2 (fun h1 => ?_) (fun h1 => ?_)
        rotate_left
        · have h1 : ¬ c.low (i + 1) > c.low i := by simpa using h1
          exact iteF ⟨rfl, s5, ⟨vs, hr5, no (by omega), by omega⟩, hg5⟩
        have h1 : c.low (i + 1) > c.low i := by simpa using h1
        refine ⟨_, rfl, _, rfl, _, _, rfl, rfl, _, rfl, _, _, rfl, rfl, _, rfl, ?_⟩
        refine ite2 (fun h2 => ?_) (fun h2 => ?_)
        rotate_left
        · have h2 : ¬ (i : Int) - c.low (i + 1) < c.span := by simpa using h2
          exact ⟨rfl, s5, ⟨vs, hr5, no (by omega), by omega⟩, hg5⟩
        have h2 : (i : Int) - c.low (i + 1) < c.span := by simpa using h2
        refine ⟨_, rfl, .inl ⟨rfl, _, .of hr5⟩, _, rfl, _, rfl, le_line (by simp), fun t1 ht1 => ⟨r, vs, _, rfl, rfl, Same.upd ht1 _ _ hr5, lt_line (by omega), rfl, (s5.trans (Same.upd ht1)).upd2 hr, ⟨_, upd_same, ?_, by simp; omega⟩, ?_⟩⟩
        · have P6 : Prs (upd Hc t1 (.tup (prV (c.low (i + 1), (i : Int))))) (vs ++ [.ref t1]) (c.told (i + 1)) := by
            rw [c.told_succ, show c.at_ i = some (c.low (i + 1), (i : Int)) by unfold NS.at_; rw [if_pos ⟨h1, h2⟩]]
            exact (P5.same (Same.upd ht1)).snoc upd_same
          exact P6.tups (Tups.lst (Same.upd ht1 _ _ hr5))
        · rw [upd_ne hgr2]; exact Same.upd ht1 _ _ hg5
      rintro σ Hd ⟨rfl, s6, ⟨vs6, hr6, P6, hv6⟩, hg6⟩
      exact ⟨_, rfl, ⟨g2, _, _, _, rfl, hg6, hgr2⟩, s6, vs6, hr6, P6, hv6⟩
    · rintro σ H' ⟨⟨g1, u3, u4, u5, rfl, _, _⟩, s3, vs, hr3, P3, _⟩
      rw [List.length_map] at P3
      exact ⟨_, _, _, _, _, rfl, s3, vs, hr3, P3⟩
theorem sc__law_at : FnScope ["_law_script", "_law_k"] ["_law_script", "_law_k"] (defScope s__law_at) := ⟨rfl, rfl, rfl, by decide +kernel, rfl, by decide +kernel, by decide +kernel⟩
theorem ok__law_at {f : Addr} {fd : FuncData} (F : Fun K "_law_at" "_law_at" s__law_at f fd) (T : TB mg) : FnOk P w K mg base (CXF P w) true 1 f fd ["_law_script", "_law_k"] (sp_at K) := by
  refine F.okX sc__law_at (fun vs H Q E h => ?_) (fun cdv A outer s H vs Q E hr h hX => ?_)
  · obtain ⟨a, ns, k, rfl, _⟩ := h
    rfl
  · obtain ⟨a, ns, k, rfl, hS, h0, q⟩ := h
    refine ⟨_, (@pss_cons _ _ _ _ _ (@ps_if _ _ _ _ _ _ _ _ (@pt_cmpR _ _ _ _ _ _ _ _ op_lt (pv 1) (@pe_callB _ _ _ _ _ _ _ _ _ (call_len_seqK K) (by exact rfl) T.n_len PyProof.Rows.Boot.«len» (@pa_c _ _ _ _ _ (pv 0) pa_nil (by rfl)) (by decide) (by decide) (by rfl) (by rfl)) (nomark _)) (@pss_one _ _ _ (@ps_ret _ _ _ _ (@pe_ix _ _ _ _ _ _ _ (ix_listK K) (pv 0) (pv 1) (fun _ _ => rfl)))) pss_nil) (@pss_one _ _ _ (@ps_ret _ _ _ _ pe_int))), ?_⟩
    refine ⟨_, rfl, _, rfl, a, _, rfl, .inl hS, _, _, rfl, rfl, _, rfl, ?_⟩
    refine ite2 (fun h => ?_) (fun h => ?_)
    · have h : k < ((ns.map V.int).length : Int) := by simpa using h
      rw [List.length_map] at h
      exact ⟨_, rfl, _, rfl, a, _, k, _, rfl, rfl, hS, cell_at h0 h, q⟩
    · have h : ¬ k < ((ns.map V.int).length : Int) := by simpa using h
      rw [List.length_map] at h
      rw [cell_out h0 h] at q
      exact q
theorem sc__law_whole : FnScope ["_law_found"] ["_law_found"] (defScope s__law_whole) := ⟨rfl, rfl, rfl, by decide +kernel, rfl, by decide +kernel, by decide +kernel⟩
theorem ok__law_whole {f : Addr} {fd : FuncData} (F : Fun K "_law_whole" "_law_whole" s__law_whole f fd) (T : TB mg) : FnOk P w K mg base (CXF P w) true 1 f fd ["_law_found"] sp_whole := by
  refine F.okX sc__law_whole (fun vs H Q E h => ?_) (fun cdv A outer s H vs Q E hr h hX => ?_)
  · obtain ⟨i, rfl, _⟩ := h
    rfl
  · obtain ⟨i, rfl, q⟩ := h
    refine ⟨_, (@pss_one _ _ _ (@ps_ret _ _ _ _ (@pe_and _ _ _ _ _ _ _ (@pe_callB _ _ _ _ _ _ _ _ _ (call_isiK K) (by exact rfl) T.n_isinstance PyProof.Rows.Boot.«isinstance» (@pa_c _ _ _ _ _ (pv 0) (@pa_c _ _ _ _ _ (@pe_bltn _ _ (.ty "int") _ _ (by exact rfl) T.n_int PyProof.Rows.Boot.«int» (by exact rfl) (by decide) (by decide)) pa_nil (by rfl)) (by rfl)) (by decide) (by decide) (by rfl) (by rfl)) (@pe_one _ _ _ _ _ (@pe_not _ _ _ _ (@pe_callB _ _ _ _ _ _ _ _ _ (call_isiK K) (by exact rfl) T.n_isinstance PyProof.Rows.Boot.«isinstance» (@pa_c _ _ _ _ _ (pv 0) (@pa_c _ _ _ _ _ (@pe_bltn _ _ (.ty "bool") _ _ (by exact rfl) T.n_bool PyProof.Rows.Boot.«bool» (by exact rfl) (by decide) (by decide)) pa_nil (by rfl)) (by rfl)) (by decide) (by decide) (by rfl) (by rfl))))))), ?_⟩
    refine ⟨_, rfl, _, _, _, true, _, rfl, rfl, .int i, rfl, _, rfl, ?_⟩
    refine iteT ?_
    exact ⟨_, rfl, _, _, _, false, _, rfl, rfl, .int i, by kernel_rfl, _, rfl, q⟩
theorem sc__law_bank : FnScope ["_law_cell", "_law_other", "_law_many", "_law_letters", "_law_stem", "_law_rest", "_law_k", "_law_size", "_law_found", "_law_spot", "_law_sign"] ["_law_cell", "_law_other", "_law_many"] (defScope s__law_bank) := ⟨rfl, rfl, rfl, by decide +kernel, rfl, by decide +kernel, by decide +kernel⟩
theorem ok__law_bank {f : Addr} {fd : FuncData} (F : Fun K "_law_bank" "_law_bank" s__law_bank f fd) (T : TB mg) : FnOk P w K mg base (CXF P w) true 1 f fd ["_law_cell", "_law_other", "_law_many"] sp_bank := by
  refine F.okX sc__law_bank (fun vs H Q E h => ?_) (fun cdv A outer s H vs Q E hr h hX => ?_)
  · obtain ⟨cell, other, many, rfl, _⟩ := h
    rfl
  · obtain ⟨cell, other, many, rfl, hm0, hm, q⟩ := h
    have l26 := abc_len
    have c26 : (0 : Int) < 26 := by decide
    have c12 : (0 : Int) < 12 := by decide
    refine ⟨_, (@pss_cons _ _ _ _ _ (@ps_set _ _ (3) _ _ _ _ sc__law_bank.nd (by exact rfl) (Or.inl rfl) pe_str (by rfl) (by first | exact .inl rfl | exact .inr rfl | assumption)) (@pss_cons _ _ _ _ _ (@ps_set _ _ (4) _ _ _ _ sc__law_bank.nd (by exact rfl) (Or.inl rfl) pe_str (by rfl) (by first | exact .inl rfl | exact .inr rfl | assumption)) (@pss_cons _ _ _ _ _ (@ps_set _ _ (5) _ _ _ _ sc__law_bank.nd (by exact rfl) (Or.inl rfl) (@pe_op _ _ _ _ _ _ _ _ op_fdiv (pv 0) pe_int) (by rfl) (by first | exact .inl rfl | exact .inr rfl | assumption)) (@pss_cons _ _ _ _ _ (@ps_for _ _ _ _ _ _ _ _ hX.own (by exact rfl) (@pi_range1 _ _ _ _ _ _ (by exact rfl) T.n_range (@pa_c _ _ _ _ _ pe_int pa_nil (by rfl)) (by rfl)) (@pg_name _ _ (6) _ sc__law_bank.nd (by exact rfl) (Or.inl rfl) (by first | exact .inl rfl | exact .inr rfl | assumption)) (@pss_cons _ _ _ _ _ (@ps_set _ _ (4) _ _ _ _ sc__law_bank.nd (by exact rfl) (Or.inl rfl) (@pe_op _ _ _ _ _ _ _ _ op_add_str (pv 4) (@pe_ix _ _ _ _ _ _ _ ix_str (pv 3) (@pe_op _ _ _ _ _ _ _ _ op_mod (pv 5) pe_int) (fun _ _ => rfl))) (by rfl) (by first | exact .inl rfl | exact .inr rfl | assumption)) (@pss_one _ _ _ (@ps_set _ _ (5) _ _ _ _ sc__law_bank.nd (by exact rfl) (Or.inl rfl) (@pe_op _ _ _ _ _ _ _ _ op_fdiv (pv 5) pe_int) (by rfl) (by first | exact .inl rfl | exact .inr rfl | assumption)))) (by intro _; rfl)) (@pss_cons _ _ _ _ _ (@ps_set _ _ (7) _ _ _ _ sc__law_bank.nd (by exact rfl) (Or.inl rfl) (@pe_op _ _ _ _ _ _ _ _ op_add pe_int (@pe_op _ _ _ _ _ _ _ _ op_mod (@pe_op _ _ _ _ _ _ _ _ op_fdiv (pv 0) pe_int) pe_int)) (by rfl) (by first | exact .inl rfl | exact .inr rfl | assumption)) (@pss_cons _ _ _ _ _ (@ps_set _ _ (8) _ _ _ _ sc__law_bank.nd (by exact rfl) (Or.inl rfl) (@pe_lst _ _ _ _ pa_nil) (by rfl) (by first | exact .inl rfl | exact .inr rfl | assumption)) (@pss_cons _ _ _ _ _ (@ps_for _ _ _ _ _ _ _ _ hX.own (by exact rfl) (@pi_range1 _ _ _ _ _ _ (by exact rfl) T.n_range (@pa_c _ _ _ _ _ (pv 2) pa_nil (by rfl)) (by rfl)) (@pg_name _ _ (6) _ sc__law_bank.nd (by exact rfl) (Or.inl rfl) (by first | exact .inl rfl | exact .inr rfl | assumption)) (@pss_one _ _ _ (@ps_if _ _ _ _ _ _ _ _ (@pt_cmpR _ _ _ _ _ _ _ _ op_eq (@pe_op _ _ _ _ _ _ _ _ op_mod (pv 0) pe_int) pe_int (nomark _)) (@pss_one _ _ _ (@ps_expr _ _ _ _ (@pe_bmK _ K _ _ _ _ _ _ _ _ _ _ _ PySem.F.plainAttrs_list PySem.F.slot_list_append PySem.F.type_list_append mt_append (pv 8) (@pa_c _ _ _ _ _ (@pe_slice _ _ _ _ _ _ _ _ _ _ sl_str (pv 4) po_none (@po_some _ _ _ (@pe_op _ _ _ _ _ _ _ _ op_add pe_int (@pe_op _ _ _ _ _ _ _ _ op_mod (@pe_op _ _ _ _ _ _ _ _ op_add (pv 7) (pv 6)) pe_int)))) pa_nil (by rfl)) (by rfl) (by rfl) (by rfl) (by rfl) (by rfl) (by rfl)) (by rfl))) (@pss_cons _ _ _ _ _ (@ps_set _ _ (9) _ _ _ _ sc__law_bank.nd (by exact rfl) (Or.inl rfl) (@pe_op _ _ _ _ _ _ _ _ op_mod (pv 1) (pv 7)) (by rfl) (by first | exact .inl rfl | exact .inr rfl | assumption)) (@pss_cons _ _ _ _ _ (@ps_set _ _ (10) _ _ _ _ sc__law_bank.nd (by exact rfl) (Or.inl rfl) (@pe_ix _ _ _ _ _ _ _ ix_str (pv 3) (@pe_op _ _ _ _ _ _ _ _ op_mod (@pe_op _ _ _ _ _ _ _ _ op_add (@pe_op _ _ _ _ _ _ _ _ op_fdiv (pv 1) pe_int) (pv 6)) pe_int) (fun _ _ => rfl)) (by rfl) (by first | exact .inl rfl | exact .inr rfl | assumption)) (@pss_one _ _ _ (@ps_expr _ _ _ _ (@pe_bmK _ K _ _ _ _ _ _ _ _ _ _ _ PySem.F.plainAttrs_list PySem.F.slot_list_append PySem.F.type_list_append mt_append (pv 8) (@pa_c _ _ _ _ _ (@pe_op _ _ _ _ _ _ _ _ op_add_str (@pe_op _ _ _ _ _ _ _ _ op_add_str (@pe_slice _ _ _ _ _ _ _ _ _ _ sl_str (pv 4) po_none (@po_some _ _ _ (pv 9))) (pv 10)) (@pe_slice _ _ _ _ _ _ _ _ _ _ sl_str (pv 4) (@po_some _ _ _ (@pe_op _ _ _ _ _ _ _ _ op_add (pv 9) pe_int)) (@po_some _ _ _ (pv 7)))) pa_nil (by rfl)) (by rfl) (by rfl) (by rfl) (by rfl) (by rfl) (by rfl)) (by rfl))))))) (by intro _; rfl)) (@pss_one _ _ _ (@ps_ret _ _ _ _ (pv 8)))))))))), ?_⟩
    refine ⟨_, rfl, _, _, rfl, rfl, ⟨by decide, by decide⟩, ?_⟩
    refine ⟨12, rfl, by decide, by decide, ?_⟩
    refine for_range (fun i σ H' => H' = H ∧ ∃ (stem : Str) (rest : Int) (kv : Option V), stem.length = i ∧ lows stem ∧ σ = [some (.int cell), some (.int other), some (.int many), some (.str abc), some (.str stem), some (.int rest), kv, none, none, none, none]) ⟨rfl, _, _, _, (by decide +kernel), (show (Str.ofString "").cps.toList.all low = true by decide +kernel), rfl⟩ ?_ ?_
    · rintro i σ H' hi ⟨rfl, stem, rest, kv, hl, hlow, rfl⟩
      have hi : i < 12 := hi
      refine ⟨_, rfl, _, rfl, _, rfl, _, _, rfl, rfl, c26, _, _, _, rfl, rfl, le_line (by omega), abc_is, _, _, rfl, rfl, le_line (show stem.length + 1 ≤ 100000 by omega), ?_⟩
      refine ⟨_, rfl, _, _, rfl, rfl, ⟨by decide, by decide⟩, rfl, _, _, _, ?_, ?_, rfl⟩
      · rw [len_app, hl]; rfl
      · have h1 : stem.cps.toList.all low = true := hlow
        have h2 := low_abc rest
        unfold lows
        rw [app_cps, List.all_append, h1]
        simp [h2]
    · rintro σ H' ⟨rfl, stem, rest, kv, hl, hlow, rfl⟩
      have hl : stem.length = 12 := hl
      refine ⟨_, rfl, _, _, rfl, rfl, ⟨by decide, by decide⟩, _, _, rfl, rfl, c12, _, _, rfl, rfl, ?_⟩
      have z0 : 1 ≤ 1 + cell / 2 % 12 ∧ 1 + cell / 2 % 12 ≤ 12 := by omega
      refine ⟨le_line (by simp), fun D hD => ?_⟩
      refine ⟨_, rfl, many, rfl, by omega, by omega, ?_⟩
      refine for_range (fun i σ H2 => (∃ u v w, σ = [some (.int cell), some (.int other), some (.int many), some (.str abc), some (.str stem), some (.int rest), u, some (.int (1 + cell / 2 % 12)), some (.ref D), v, w]) ∧ H2 D = some (.lst (((List.range i).map (bankW stem cell other)).map V.str)) ∧ Same H' H2) ⟨⟨_, _, _, rfl⟩, upd_same, Same.upd hD⟩ ?_ ?_
      · rintro i σ H2 hi ⟨⟨u, v, w, rfl⟩, hD2, s2⟩
        have hi : i < 12 := by omega
        have nx : ∀ z, z = bankW stem cell other i → (List.range i).map (fun k => V.str (bankW stem cell other k)) ++ [V.str z] = ((List.range (i + 1)).map (bankW stem cell other)).map V.str := fun z e => by
          rw [List.range_succ, e]; simp
        have hlt : (((List.range i).map (bankW stem cell other)).map V.str).length < sizeLine := lt_line (by simp; omega)
        refine ⟨_, rfl, _, _, rfl, rfl, (show (0 : Int) < 2 by decide), rfl, _, rfl, ?_⟩
        refine ite2 (fun h => ?_) (fun h => ?_)
        · have h : cell % 2 = 1 := by simpa using h
          refine ⟨_, rfl, .inl ⟨rfl, _, .of hD2⟩, _, rfl, _, rfl, _, rfl, _, _, rfl, rfl, _, _, rfl, rfl, c12, _, _, rfl, rfl, _, rfl, stem, rfl, le_line (by omega), D, _, _, rfl, rfl, hD2, hlt, ⟨_, _, _, rfl⟩, ?_, s2.upd2 hD⟩
          rw [upd_same]
          have := nx (Txt.slice stem none (some (1 + (1 + cell / 2 % 12 + (0 + (i : Int))) % 12))) (by simp [bankW, h])
          rw [← this]; simp
        · have h : ¬ cell % 2 = 1 := by simpa using h
          have z1 : 0 ≤ other % (1 + cell / 2 % 12) ∧ other % (1 + cell / 2 % 12) < 1 + cell / 2 % 12 := ⟨Int.emod_nonneg _ (by omega), Int.emod_lt_of_pos _ (by omega)⟩
          have b1 := slice_len stem none (some (other % (1 + cell / 2 % 12)))
          have b2 := slice_len stem (some (other % (1 + cell / 2 % 12) + 1)) (some (1 + cell / 2 % 12))
          refine ⟨_, rfl, _, rfl, _, _, rfl, rfl, (show (0 : Int) < 1 + cell / 2 % 12 by omega), ?_⟩
          refine ⟨_, rfl, _, rfl, _, _, rfl, rfl, ⟨by decide, by decide⟩, _, rfl, _, _, rfl, rfl, _, _, rfl, rfl, c26, _, _, _, rfl, rfl, le_line (by omega), abc_is, ?_⟩
          refine ⟨_, rfl, .inl ⟨rfl, _, .of hD2⟩, _, rfl, _, rfl, _, rfl, stem, rfl, le_line (by omega), _, rfl, _, _, rfl, rfl, le_line (show (Txt.slice stem none (some (other % (1 + cell / 2 % 12)))).length + 1 ≤ 100000 by omega), _, rfl, _, rfl, _, _, rfl, rfl, _, rfl, _, rfl, _, rfl, stem, rfl, le_line (by omega), _, _, rfl, rfl, ?_, D, _, _, rfl, rfl, hD2, hlt, ⟨_, _, _, rfl⟩, ?_, s2.upd2 hD⟩
          · rw [len_app]
            exact le_line (show (Txt.slice stem none (some (other % (1 + cell / 2 % 12)))).length + 1 + _ ≤ 100000 by omega)
          rw [upd_same]
          have := nx (Txt.slice stem none (some (other % (1 + cell / 2 % 12))) ++ ⟨#[97 + ((other / 12 + (0 + (i : Int))) % 26).toNat]⟩ ++ Txt.slice stem (some (other % (1 + cell / 2 % 12) + 1)) (some (1 + cell / 2 % 12))) (by simp [bankW, h])
          rw [← this]; simp
      · rintro σ H2 ⟨⟨u, v, w, rfl⟩, hD2, s2⟩
        refine ⟨_, rfl, q H2 D _ s2 hD hD2 (by simp) ?_ (bank_nodup hl cell other (by omega))⟩
        intro z hz
        obtain ⟨k, _, rfl⟩ := List.mem_map.mp hz
        exact bank_isW hl hlow cell other k
theorem sc__law_book : FnScope ["_law_script", "_law_cell", "_law_spot", "_law_many", "_law_bank_here", "_law_book_here", "_law_rest", "_law_k"] ["_law_script", "_law_cell", "_law_spot", "_law_many", "_law_bank_here"] (defScope s__law_book) := ⟨rfl, rfl, rfl, by decide +kernel, rfl, by decide +kernel, by decide +kernel⟩
theorem ok__law_book {f : Addr} {fd : FuncData} (F : Fun K "_law_book" "_law_book" s__law_book f fd) (T : TB mg) (D__law_at : IsDef P w K mg base true 1 "_law_at" ["_law_script", "_law_k"] (sp_at K)) : FnOk P w K mg base (CXF P w) true 2 f fd ["_law_script", "_law_cell", "_law_spot", "_law_many", "_law_bank_here"] (sp_book K) := by
  refine F.okX sc__law_book (fun vs H Q E h => ?_) (fun cdv A outer s H vs Q E hr h hX => ?_)
  · obtain ⟨a, b, ns, zs, c, p, m, rfl, _⟩ := h
    rfl
  · obtain ⟨a, b, ns, zs, c, p, m, rfl, hS, hb, ⟨hz1, hz2⟩, hp0, hm0, hm1, q⟩ := h
    refine ⟨_, (@pss_cons _ _ _ _ _ (@ps_set _ _ (5) _ _ _ _ sc__law_book.nd (by exact rfl) (Or.inl rfl) (@pe_lst _ _ _ _ pa_nil) (by rfl) (by first | exact .inl rfl | exact .inr rfl | assumption)) (@pss_cons _ _ _ _ _ (@ps_set _ _ (6) _ _ _ _ sc__law_book.nd (by exact rfl) (Or.inl rfl) (pv 1) (by rfl) (by first | exact .inl rfl | exact .inr rfl | assumption)) (@pss_cons _ _ _ _ _ (@ps_for _ _ _ _ _ _ _ _ hX.own (by exact rfl) (@pi_range1 _ _ _ _ _ _ (by exact rfl) T.n_range (@pa_c _ _ _ _ _ (pv 3) pa_nil (by rfl)) (by rfl)) (@pg_name _ _ (7) _ sc__law_book.nd (by exact rfl) (Or.inl rfl) (by first | exact .inl rfl | exact .inr rfl | assumption)) (@pss_cons _ _ _ _ _ (@ps_expr _ _ _ _ (@pe_bmK _ K _ _ _ _ _ _ _ _ _ _ _ PySem.F.plainAttrs_list PySem.F.slot_list_append PySem.F.type_list_append mt_append (pv 5) (@pa_c _ _ _ _ _ (@pe_ix _ _ _ _ _ _ _ (ix_listK K) (pv 4) (@pe_op _ _ _ _ _ _ _ _ op_mod (@pe_op _ _ _ _ _ _ _ _ op_add (@pe_op _ _ _ _ _ _ _ _ op_add (pv 6) (pv 7)) (@pe_def _ _ _ _ _ _ _ _ _ _ _ _ D__law_at (hr.mono (by decide)) passF (@pa_c _ _ _ _ _ (pv 0) (@pa_c _ _ _ _ _ (@pe_op _ _ _ _ _ _ _ _ op_add (pv 2) (pv 7)) pa_nil (by rfl)) (by rfl)) (by rfl) (by decide) (by rfl) (by rfl))) (@pe_callB _ _ _ _ _ _ _ _ _ (call_len_seqK K) (by exact rfl) T.n_len PyProof.Rows.Boot.«len» (@pa_c _ _ _ _ _ (pv 4) pa_nil (by rfl)) (by decide) (by decide) (by rfl) (by rfl))) (fun _ _ => rfl)) pa_nil (by rfl)) (by rfl) (by rfl) (by rfl) (by rfl) (by rfl) (by rfl)) (by rfl)) (@pss_one _ _ _ (@ps_set _ _ (6) _ _ _ _ sc__law_book.nd (by exact rfl) (Or.inl rfl) (@pe_op _ _ _ _ _ _ _ _ op_fdiv (pv 6) (@pe_callB _ _ _ _ _ _ _ _ _ (call_len_seqK K) (by exact rfl) T.n_len PyProof.Rows.Boot.«len» (@pa_c _ _ _ _ _ (pv 4) pa_nil (by rfl)) (by decide) (by decide) (by rfl) (by rfl))) (by rfl) (by first | exact .inl rfl | exact .inr rfl | assumption)))) (by intro _; rfl)) (@pss_one _ _ _ (@ps_ret _ _ _ _ (pv 5)))))), ?_⟩
    refine ⟨le_line (by simp), fun l hl => ?_⟩
    refine ⟨_, rfl, ?_⟩
    refine ⟨_, rfl, m, rfl, by omega, by omega, ?_⟩
    refine for_range (fun i σ H' => (∃ r u, σ = [some (.ref a), some (.int c), some (.int p), some (.int m), some (.ref b), some (.ref l), some (.int r), u]) ∧ Same H H' ∧ ∃ ws : List Str, H' l = some (.lst (ws.map V.str)) ∧ ws.length = i ∧ ∀ w ∈ ws, w ∈ zs) ⟨⟨_, _, rfl⟩, Same.upd hl, [], upd_same, rfl, fun w hw => by cases hw⟩ ?_ ?_
    · rintro i σ H' hi ⟨⟨r, u, rfl⟩, s1, ws, hl1, hw1, hw2⟩
      have hi : i < m.toNat := hi
      have hb1 := s1 _ _ hb
      have z0 : 0 ≤ (r + (0 + (i : Int)) + cell ns (p + (0 + (i : Int)))) % (zs.length : Int) := Int.emod_nonneg _ (by omega)
      have z1 : (r + (0 + (i : Int)) + cell ns (p + (0 + (i : Int)))) % (zs.length : Int) < (zs.length : Int) := Int.emod_lt_of_pos _ (by omega)
      obtain ⟨w, hw, hat⟩ := str_at zs z0 z1
      have el : (zs.map V.str).length = zs.length := List.length_map ..
      refine ⟨_, rfl, .inl ⟨rfl, _, .of hl1⟩, _, rfl, _, rfl, _, rfl, _, _, rfl, rfl, _, rfl, _, rfl, _, rfl, _, _, rfl, rfl, a, ns, _, rfl, s1.seq hS, by omega, _, _, rfl, rfl, _, rfl, b, _, rfl, .inl (.of hb1), _, _, rfl, rfl, (by rw [el]; show (0 : Int) < _; omega), b, _, _, _, rfl, rfl, .of hb1, (by rw [el]; exact hat), l, _, _, rfl, rfl, hl1, lt_line (by rw [List.length_map]; omega), ?_⟩
      have hbl : b ≠ l := ne_of_none hb hl
      have hb2 : upd H' l (.lst (ws.map V.str ++ [.str w])) b = some (.lst (zs.map V.str)) := by rw [upd_ne hbl]; exact hb1
      refine ⟨_, rfl, _, rfl, b, _, rfl, .inl (.of hb2), _, _, rfl, rfl, ⟨by rw [el]; omega, by rw [el]; omega⟩, ⟨_, _, rfl⟩, s1.upd2 hl, ws ++ [w], ?_, by simp [hw1], ?_⟩
      · rw [upd_same]; simp
      · intro x hx
        rcases List.mem_append.mp hx with hx | hx
        · exact hw2 x hx
        · have : x = w := by simpa using hx
          rw [this]; exact hw
    · rintro σ H' ⟨⟨r, u, rfl⟩, s1, ws, hl1, hw1, hw2⟩
      exact ⟨_, rfl, q H' l ws s1 hl hl1 hw1 hw2⟩
theorem sc__law_near : FnScope ["_law_cell", "_law_bank_here", "_law_same", "_law_found", "_law_rest", "_law_x", "_law_y", "_law_price"] ["_law_cell", "_law_bank_here", "_law_same"] (defScope s__law_near) := ⟨rfl, rfl, rfl, by decide +kernel, rfl, by decide +kernel, by decide +kernel⟩
theorem ok__law_near {f : Addr} {fd : FuncData} (F : Fun K "_law_near" "_law_near" s__law_near f fd) (T : TB mg) : FnOk P w K mg base (CXF P w) true 1 f fd ["_law_cell", "_law_bank_here", "_law_same"] sp_near := by
  refine F.okX sc__law_near (fun vs H Q E h => ?_) (fun cdv A outer s H vs Q E hr h hX => ?_)
  · obtain ⟨cell, same, b, zs, rfl, _⟩ := h
    rfl
  · obtain ⟨cell, same, b, zs, rfl, hb, hz8, hw, hn, hs1, hs2, q⟩ := h
    have hs3 : (0 : Int) < same + 3 := by omega
    refine ⟨_, (@pss_cons _ _ _ _ _ (@ps_set _ _ (3) _ _ _ _ sc__law_near.nd (by exact rfl) (Or.inl rfl) (@pe_lst _ _ _ _ pa_nil) (by rfl) (by first | exact .inl rfl | exact .inr rfl | assumption)) (@pss_cons _ _ _ _ _ (@ps_set _ _ (4) _ _ _ _ sc__law_near.nd (by exact rfl) (Or.inl rfl) (pv 0) (by rfl) (by first | exact .inl rfl | exact .inr rfl | assumption)) (@pss_cons _ _ _ _ _ (@ps_for _ _ _ _ _ _ _ _ hX.own (by exact rfl) (@pi_listK _ K _ _ _ (pv 1) (by rfl)) (@pg_name _ _ (5) _ sc__law_near.nd (by exact rfl) (Or.inl rfl) (by first | exact .inl rfl | exact .inr rfl | assumption)) (@pss_one _ _ _ (@ps_for _ _ _ _ _ _ _ _ hX.own (by exact rfl) (@pi_listK _ K _ _ _ (pv 1) (by rfl)) (@pg_name _ _ (6) _ sc__law_near.nd (by exact rfl) (Or.inl rfl) (by first | exact .inl rfl | exact .inr rfl | assumption)) (@pss_one _ _ _ (@ps_if _ _ _ _ _ _ _ _ (@pt_cmpR _ _ _ _ _ _ _ _ op_ne (pv 5) (pv 6) (nomark _)) (@pss_cons _ _ _ _ _ (@ps_set _ _ (7) _ _ _ _ sc__law_near.nd (by exact rfl) (Or.inl rfl) (@pe_op _ _ _ _ _ _ _ _ op_mod (@pe_op _ _ _ _ _ _ _ _ op_fdiv (pv 4) pe_int) (@pe_op _ _ _ _ _ _ _ _ op_add (pv 2) pe_int)) (by rfl) (by first | exact .inl rfl | exact .inr rfl | assumption)) (@pss_cut _ _ _ _ _ (@ps_if _ _ _ _ _ _ _ _ (@pt_cmpR _ _ _ _ _ _ _ _ op_eq (@pe_op _ _ _ _ _ _ _ _ op_mod (pv 4) pe_int) pe_int (nomark _)) (@pss_cons _ _ _ _ _ (@ps_expr _ _ _ _ (@pe_bmK _ K _ _ _ _ _ _ _ _ _ _ _ PySem.F.plainAttrs_list PySem.F.slot_list_append PySem.F.type_list_append mt_append (pv 3) (@pa_c _ _ _ _ _ (@pe_tup _ _ _ _ _ (@pa_c _ _ _ _ _ (pv 5) (@pa_c _ _ _ _ _ (pv 6) (@pa_c _ _ _ _ _ (@pe_callB _ _ _ _ _ _ _ _ _ (call_min2 rfl) (by exact rfl) T.n_min PyProof.Rows.Boot.«min» (@pa_c _ _ _ _ _ (pv 7) (@pa_c _ _ _ _ _ pe_int pa_nil (by rfl)) (by rfl)) (by decide) (by decide) (by rfl) (by rfl)) pa_nil (by rfl)) (by rfl)) (by rfl))) pa_nil (by rfl)) (by rfl) (by rfl) (by rfl) (by rfl) (by rfl) (by rfl)) (by rfl)) (@pss_one _ _ _ (@ps_set _ _ (4) _ _ _ _ sc__law_near.nd (by exact rfl) (Or.inl rfl) (@pe_op _ _ _ _ _ _ _ _ op_fdiv (pv 4) (@pe_op _ _ _ _ _ _ _ _ op_add (pv 2) pe_int)) (by rfl) (by first | exact .inl rfl | exact .inr rfl | assumption)))) (@pss_one _ _ _ (@ps_if _ _ _ _ _ _ _ _ (@pt_cmpR _ _ _ _ _ _ _ _ op_eq (@pe_op _ _ _ _ _ _ _ _ op_mod (pv 4) pe_int) pe_int (nomark _)) (@pss_one _ _ _ (@ps_expr _ _ _ _ (@pe_bmK _ K _ _ _ _ _ _ _ _ _ _ _ PySem.F.plainAttrs_list PySem.F.slot_list_append PySem.F.type_list_append mt_append (pv 3) (@pa_c _ _ _ _ _ (@pe_tup _ _ _ _ _ (@pa_c _ _ _ _ _ (pv 5) (@pa_c _ _ _ _ _ (pv 6) (@pa_c _ _ _ _ _ pe_int pa_nil (by rfl)) (by rfl)) (by rfl))) pa_nil (by rfl)) (by rfl) (by rfl) (by rfl) (by rfl) (by rfl) (by rfl)) (by rfl))) pss_nil))) (@pss_one _ _ _ (@ps_set _ _ (4) _ _ _ _ sc__law_near.nd (by exact rfl) (Or.inl rfl) (@pe_op _ _ _ _ _ _ _ _ op_fdiv (pv 4) pe_int) (by rfl) (by first | exact .inl rfl | exact .inr rfl | assumption))))) pss_nil)) (by intro _; rfl))) (by intro _; rfl)) (@pss_one _ _ _ (@ps_ret _ _ _ _ (pv 3)))))), ?_⟩
    refine ⟨le_line (by simp), fun l hl => ?_⟩
    refine ⟨_, rfl, ?_⟩
    have hlb : b ≠ l := ne_of_none hb hl
    refine ⟨_, rfl, b, rfl, ⟨_, .of (Same.upd hl _ _ hb)⟩, ?_⟩
    refine for_list (xs := zs.map V.str) (fun i σ H' => (∃ (rest : Int) (u1 u2 u3 : Option V), σ = [some (.int cell), some (.ref b), some (.int same), some (.ref l), some (.int rest), u1, u2, u3]) ∧ Same H H' ∧ ∃ xs fs, H' l = some (.lst xs) ∧ Trips H' xs fs ∧ PairInv zs i 0 fs) ⟨⟨_, _, _, _, rfl⟩, Same.upd hl, [], [], upd_same, .nil, .nil⟩ ?_ ?_ ?_
    · rintro i σ H' _ ⟨_, s1, _⟩
      exact .of (s1 _ _ hb)
    · rintro i v σ H' hv ⟨⟨rest, u1, u2, u3, rfl⟩, s1, xs, fs, hl1, T1, P1⟩
      obtain ⟨x, hx, rfl⟩ : ∃ x, zs[i]? = some x ∧ v = .str x := word_at hv
      have hi : i < zs.length := (List.getElem?_eq_some_iff.mp hx).1
      refine ⟨_, rfl, b, rfl, ⟨_, .of (s1 _ _ hb)⟩, ?_⟩
      refine for_list (xs := zs.map V.str) (fun j σ H' => (∃ (rest : Int) (u2 u3 : Option V), σ = [some (.int cell), some (.ref b), some (.int same), some (.ref l), some (.int rest), some (.str x), u2, u3]) ∧ Same H H' ∧ ∃ xs fs, H' l = some (.lst xs) ∧ Trips H' xs fs ∧ PairInv zs i j fs) ⟨⟨_, _, _, rfl⟩, s1, xs, fs, hl1, T1, P1⟩ ?_ ?_ ?_
      · rintro j σ H' _ ⟨_, s1, _⟩
        exact .of (s1 _ _ hb)
      · clear s1 hl1 T1 P1 xs fs u1 u2 u3 rest H'
        rintro j v σ H' hv ⟨⟨rest, u2, u3, rfl⟩, s1, xs, fs, hl1, T1, P1⟩
        obtain ⟨y, hy, rfl⟩ : ∃ y, zs[j]? = some y ∧ v = .str y := word_at hv
        have hfew : xs.length < 1000 := by
          have h1 := P1.few
          have h2 : i * (zs.length - 1) ≤ 8 * 7 := Nat.mul_le_mul (by omega) (by omega)
          have h3 : j < zs.length := (List.getElem?_eq_some_iff.mp hy).1
          have h4 := T1.1
          omega
        refine ⟨_, rfl, _, rfl, rfl, _, rfl, ?_⟩
        refine ite2 (fun h => ?_) (fun h => ?_)
        rotate_left
        · exact ⟨⟨_, _, _, rfl⟩, s1, xs, fs, hl1, T1, P1.skip⟩
        have hne : ¬ x = y := by simpa using h
        refine ⟨_, rfl, _, _, rfl, rfl, ⟨by decide, by decide⟩, _, rfl, _, _, rfl, rfl, _, _, rfl, rfl, hs3, ?_⟩
        have p0 : 0 ≤ rest / 3 % (same + 3) := Int.emod_nonneg _ (by omega)
        have add : ∀ (t : Addr) (ht : H' t = none) (pr : Int), 0 ≤ pr → pr ≤ 999999 → Same H (upd (upd H' t (.tup [.str x, .str y, .int pr])) l (.lst (xs ++ [.ref t]))) ∧ ∃ xs2 fs2, upd (upd H' t (.tup [.str x, .str y, .int pr])) l (.lst (xs ++ [.ref t])) l = some (.lst xs2) ∧ Trips (upd (upd H' t (.tup [.str x, .str y, .int pr])) l (.lst (xs ++ [.ref t]))) xs2 fs2 ∧ PairInv zs i (j + 1) fs2 := fun t ht pr h0 h1 => by
          refine ⟨(s1.trans (Same.upd ht)).upd2 hl, _, fs ++ [(x, y, pr)], upd_same, ?_, P1.add hn hw hx hy hne h0 h1⟩
          have T2 : Trips (upd H' t (.tup (trip (x, y, pr)))) (xs ++ [.ref t]) (fs ++ [(x, y, pr)]) := (T1.same (Same.upd ht)).snoc upd_same
          exact T2.tups (Tups.lst (Same.upd ht _ _ hl1))
        refine ⟨fun σ H2 => (∃ (rest : Int) (u3 : Option V), σ = [some (.int cell), some (.ref b), some (.int same), some (.ref l), some (.int rest), some (.str x), some (.str y), u3]) ∧ Same H H2 ∧ ∃ xs fs, H2 l = some (.lst xs) ∧ Trips H2 xs fs ∧ PairInv zs i (j + 1) fs, ?_, ?_⟩
        · refine ⟨_, rfl, _, _, rfl, rfl, (show (0 : Int) < 3 by decide), rfl, _, rfl, ?_⟩
          refine ite2 (fun _ => ?_) (fun _ => ?_)
          · refine ⟨_, rfl, .inl ⟨rfl, _, .of hl1⟩, _, rfl, _, rfl, _, rfl, _, _, rfl, le_line (by simp), fun t ht => ⟨l, xs, _, rfl, rfl, Same.upd ht _ _ hl1, lt_line (by omega), ?_⟩⟩
            obtain ⟨a1, a2⟩ := add t ht (if 999999 < rest / 3 % (same + 3) then 999999 else rest / 3 % (same + 3)) (by split <;> omega) (by split <;> omega)
            exact ⟨_, rfl, _, rfl, _, _, rfl, rfl, _, _, rfl, rfl, ⟨hs3, by omega⟩, ⟨_, _, rfl⟩, a1, a2⟩
          · refine ⟨_, rfl, _, _, rfl, rfl, (show (0 : Int) < 9 by decide), rfl, _, rfl, ?_⟩
            refine ite2 (fun _ => ?_) (fun _ => ?_)
            · refine ⟨_, rfl, .inl ⟨rfl, _, .of hl1⟩, _, rfl, _, rfl, le_line (by simp), fun t ht => ⟨l, xs, _, rfl, rfl, Same.upd ht _ _ hl1, lt_line (by omega), ?_⟩⟩
              obtain ⟨a1, a2⟩ := add t ht 999999 (by decide) (by decide)
              exact ⟨⟨_, _, rfl⟩, a1, a2⟩
            · exact ⟨⟨_, _, rfl⟩, s1, xs, fs, hl1, T1, P1.skip⟩
        rintro σ H2 ⟨⟨rest2, u4, rfl⟩, s2, xs2, fs2, hl2, T2, P2⟩
        exact ⟨_, rfl, _, _, rfl, rfl, ⟨by decide, by decide⟩, ⟨_, _, _, rfl⟩, s2, xs2, fs2, hl2, T2, P2⟩
      · rintro σ H2 ⟨⟨rest2, u4, u5, rfl⟩, s2, xs2, fs2, hl2, T2, P2⟩
        rw [List.length_map] at P2
        exact ⟨⟨_, _, _, _, rfl⟩, s2, xs2, fs2, hl2, T2, P2.row hi⟩
    · rintro σ H2 ⟨⟨rest2, u4, u5, u6, rfl⟩, s2, xs2, fs2, hl2, T2, P2⟩
      rw [List.length_map] at P2
      exact ⟨_, rfl, q H2 l xs2 fs2 s2 hl hl2 T2 (P2.good hz8)⟩
theorem sc__law_pairs : FnScope ["_law_found", "_law_pair"] ["_law_found"] (defScope s__law_pairs) := ⟨rfl, rfl, rfl, by decide +kernel, rfl, by decide +kernel, by decide +kernel⟩
theorem ok__law_pairs {f : Addr} {fd : FuncData} (F : Fun K "_law_pairs" "_law_pairs" s__law_pairs f fd) (T : TB mg) (D__law_whole : IsDef P w K mg base true 1 "_law_whole" ["_law_found"] sp_whole) : FnOk P w K mg base (CXF P w) true 2 f fd ["_law_found"] sp_lpairs := by
  refine F.okX sc__law_pairs (fun vs H Q E h => ?_) (fun cdv A outer s H vs Q E hr h hX => ?_)
  · obtain ⟨a, us, ps, rfl, _⟩ := h
    rfl
  · obtain ⟨a, us, ps, rfl, ha, P1, q⟩ := h
    refine ⟨_, (@pss_cons _ _ _ _ _ (@ps_if _ _ _ _ _ _ _ _ (@pt_not _ _ _ _ (@pt_val _ _ _ (@pe_callB _ _ _ _ _ _ _ _ _ (call_isiK K) (by exact rfl) T.n_isinstance PyProof.Rows.Boot.«isinstance» (@pa_c _ _ _ _ _ (pv 0) (@pa_c _ _ _ _ _ (@pe_bltn _ _ (.ty "list") _ _ (by exact rfl) T.n_list PyProof.Rows.Boot.«list» (by exact rfl) (by decide) (by decide)) pa_nil (by rfl)) (by rfl)) (by decide) (by decide) (by rfl) (by rfl)) (by intro _; rfl))) (@pss_one _ _ _ (@ps_ret _ _ _ _ pe_bl)) pss_nil) (@pss_cons _ _ _ _ _ (@ps_for _ _ _ _ _ _ _ _ hX.own (by exact rfl) (@pi_listK _ K _ _ _ (pv 0) (by rfl)) (@pg_name _ _ (1) _ sc__law_pairs.nd (by exact rfl) (Or.inl rfl) (by first | exact .inl rfl | exact .inr rfl | assumption)) (@pss_cons _ _ _ _ _ (@ps_if _ _ _ _ _ _ _ _ (@PW.pt _ _ _ (@pw_or _ _ _ _ _ _ _ (@pt_not _ _ _ _ (@pt_val _ _ _ (@pe_callB _ _ _ _ _ _ _ _ _ (call_isiK K) (by exact rfl) T.n_isinstance PyProof.Rows.Boot.«isinstance» (@pa_c _ _ _ _ _ (pv 1) (@pa_c _ _ _ _ _ (@pe_bltn _ _ (.ty "tuple") _ _ (by exact rfl) T.n_tuple PyProof.Rows.Boot.«tuple» (by exact rfl) (by decide) (by decide)) pa_nil (by rfl)) (by rfl)) (by decide) (by decide) (by rfl) (by rfl)) (by intro _; rfl))) (@pw_or1 _ _ _ _ (@pt_cmpR _ _ _ _ _ _ _ _ op_ne (@pe_callB _ _ _ _ _ _ _ _ _ (call_len_seqK K) (by exact rfl) T.n_len PyProof.Rows.Boot.«len» (@pa_c _ _ _ _ _ (pv 1) pa_nil (by rfl)) (by decide) (by decide) (by rfl) (by rfl)) pe_int (nomark _))))) (@pss_one _ _ _ (@ps_ret _ _ _ _ pe_bl)) pss_nil) (@pss_one _ _ _ (@ps_if _ _ _ _ _ _ _ _ (@PW.pt _ _ _ (@pw_or _ _ _ _ _ _ _ (@pt_not _ _ _ _ (@pt_val _ _ _ (@pe_def _ _ _ _ _ _ _ _ _ _ _ _ D__law_whole (hr.mono (by decide)) passF (@pa_c _ _ _ _ _ (@pe_ix _ _ _ _ _ _ _ (ix_tupK K) (pv 1) pe_int (fun _ _ => rfl)) pa_nil (by rfl)) (by rfl) (by decide) (by rfl) (by rfl)) (by intro _; rfl))) (@pw_or1 _ _ _ _ (@pt_not _ _ _ _ (@pt_val _ _ _ (@pe_def _ _ _ _ _ _ _ _ _ _ _ _ D__law_whole (hr.mono (by decide)) passF (@pa_c _ _ _ _ _ (@pe_ix _ _ _ _ _ _ _ (ix_tupK K) (pv 1) pe_int (fun _ _ => rfl)) pa_nil (by rfl)) (by rfl) (by decide) (by rfl) (by rfl)) (by intro _; rfl)))))) (@pss_one _ _ _ (@ps_ret _ _ _ _ pe_bl)) pss_nil))) (by intro _; rfl)) (@pss_one _ _ _ (@ps_ret _ _ _ _ pe_bl)))), ?_⟩
    refine ⟨_, rfl, _, _, _, true, _, rfl, rfl, .lst ha, rfl, _, rfl, ?_⟩
    refine iteF ?_
    refine ⟨_, rfl, a, rfl, ⟨_, .of ha⟩, ?_⟩
    refine for_list (xs := us) (fun i σ H' => (∃ u, σ = [some (.ref a), u]) ∧ H' = H) ⟨⟨_, rfl⟩, rfl⟩ ?_ ?_ ?_
    · rintro i σ H' _ ⟨_, rfl⟩
      exact .of ha
    · rintro i v σ H' hv ⟨⟨u, rfl⟩, rfl⟩
      have hi : i < ps.length := by rw [← P1.1]; exact (List.getElem?_eq_some_iff.mp hv).1
      obtain ⟨t, ht1, ht2⟩ := P1.atN hi
      rw [hv] at ht1
      cases ht1
      refine ⟨_, rfl, _, _, _, true, _, rfl, rfl, .tup ht2, rfl, _, rfl, ?_⟩
      refine iteF ?_
      refine ⟨_, rfl, t, _, rfl, .inr (.of ht2), rfl, _, rfl, ?_⟩
      refine ite2 (fun hh => absurd hh (by simp)) (fun _ => ?_)
      refine ⟨_, rfl, t, _, 0, _, rfl, rfl, .of ht2, atI_nat (j := 0) rfl, _, rfl, _, rfl, ?_⟩
      refine iteF ?_
      refine ⟨_, rfl, t, _, 1, _, rfl, rfl, .of ht2, atI_nat (j := 1) rfl, _, rfl, _, rfl, ?_⟩
      refine iteF ?_
      exact ⟨⟨_, rfl⟩, rfl⟩
    · rintro σ H' ⟨⟨u, rfl⟩, rfl⟩
      exact q
theorem sc__law_texts : FnScope ["_law_found", "_law_due", "_law_k"] ["_law_found", "_law_due"] (defScope s__law_texts) := ⟨rfl, rfl, rfl, by decide +kernel, rfl, by decide +kernel, by decide +kernel⟩
theorem ok__law_texts {f : Addr} {fd : FuncData} (F : Fun K "_law_texts" "_law_texts" s__law_texts f fd) (T : TB mg) : FnOk P w K mg base (CXF P w) true 1 f fd ["_law_found", "_law_due"] sp_texts := by
  refine F.okX sc__law_texts (fun vs H Q E h => ?_) (fun cdv A outer s H vs Q E hr h hX => ?_)
  · obtain ⟨a, b, ws, rfl, _⟩ := h
    rfl
  · obtain ⟨a, b, ws, rfl, ha, hb, hlen, q⟩ := h
    have el : (ws.map V.str).length = ws.length := List.length_map ..
    refine ⟨_, (@pss_cons _ _ _ _ _ (@ps_if _ _ _ _ _ _ _ _ (@PW.pt _ _ _ (@pw_or _ _ _ _ _ _ _ (@pt_not _ _ _ _ (@pt_val _ _ _ (@pe_callB _ _ _ _ _ _ _ _ _ (call_isiK K) (by exact rfl) T.n_isinstance PyProof.Rows.Boot.«isinstance» (@pa_c _ _ _ _ _ (pv 0) (@pa_c _ _ _ _ _ (@pe_bltn _ _ (.ty "list") _ _ (by exact rfl) T.n_list PyProof.Rows.Boot.«list» (by exact rfl) (by decide) (by decide)) pa_nil (by rfl)) (by rfl)) (by decide) (by decide) (by rfl) (by rfl)) (by intro _; rfl))) (@pw_or1 _ _ _ _ (@pt_cmpR _ _ _ _ _ _ _ _ op_ne (@pe_callB _ _ _ _ _ _ _ _ _ (call_len_seqK K) (by exact rfl) T.n_len PyProof.Rows.Boot.«len» (@pa_c _ _ _ _ _ (pv 0) pa_nil (by rfl)) (by decide) (by decide) (by rfl) (by rfl)) (@pe_callB _ _ _ _ _ _ _ _ _ (call_len_seqK K) (by exact rfl) T.n_len PyProof.Rows.Boot.«len» (@pa_c _ _ _ _ _ (pv 1) pa_nil (by rfl)) (by decide) (by decide) (by rfl) (by rfl)) (nomark _))))) (@pss_one _ _ _ (@ps_ret _ _ _ _ pe_bl)) pss_nil) (@pss_cons _ _ _ _ _ (@ps_for _ _ _ _ _ _ _ _ hX.own (by exact rfl) (@pi_range1 _ _ _ _ _ _ (by exact rfl) T.n_range (@pa_c _ _ _ _ _ (@pe_callB _ _ _ _ _ _ _ _ _ (call_len_seqK K) (by exact rfl) T.n_len PyProof.Rows.Boot.«len» (@pa_c _ _ _ _ _ (pv 1) pa_nil (by rfl)) (by decide) (by decide) (by rfl) (by rfl)) pa_nil (by rfl)) (by rfl)) (@pg_name _ _ (2) _ sc__law_texts.nd (by exact rfl) (Or.inl rfl) (by first | exact .inl rfl | exact .inr rfl | assumption)) (@pss_one _ _ _ (@ps_if _ _ _ _ _ _ _ _ (@PW.pt _ _ _ (@pw_or _ _ _ _ _ _ _ (@pt_not _ _ _ _ (@pt_val _ _ _ (@pe_callB _ _ _ _ _ _ _ _ _ (call_isiK K) (by exact rfl) T.n_isinstance PyProof.Rows.Boot.«isinstance» (@pa_c _ _ _ _ _ (@pe_ix _ _ _ _ _ _ _ (ix_listK K) (pv 0) (pv 2) (fun _ _ => rfl)) (@pa_c _ _ _ _ _ (@pe_bltn _ _ (.ty "str") _ _ (by exact rfl) T.n_str PyProof.Rows.Boot.«str» (by exact rfl) (by decide) (by decide)) pa_nil (by rfl)) (by rfl)) (by decide) (by decide) (by rfl) (by rfl)) (by intro _; rfl))) (@pw_or1 _ _ _ _ (@pt_cmpR _ _ _ _ _ _ _ _ op_ne (@pe_ix _ _ _ _ _ _ _ (ix_listK K) (pv 0) (pv 2) (fun _ _ => rfl)) (@pe_ix _ _ _ _ _ _ _ (ix_listK K) (pv 1) (pv 2) (fun _ _ => rfl)) (nomark _))))) (@pss_one _ _ _ (@ps_ret _ _ _ _ pe_bl)) pss_nil)) (by intro _; rfl)) (@pss_one _ _ _ (@ps_ret _ _ _ _ pe_bl)))), ?_⟩
    refine ⟨_, rfl, _, _, _, true, _, rfl, rfl, .lst ha, rfl, _, rfl, ?_⟩
    refine iteF ?_
    refine ⟨_, rfl, a, _, rfl, .inl (.of ha), _, rfl, b, _, rfl, .inl (.of hb), rfl, _, rfl, ?_⟩
    refine ite2 (fun hh => absurd hh (by simp)) (fun _ => ?_)
    refine ⟨_, rfl, b, _, rfl, .inl (.of hb), ((ws.map V.str).length : Int), rfl, by omega, by omega, ?_⟩
    refine for_range (fun i σ H' => (∃ u, σ = [some (.ref a), some (.ref b), u]) ∧ H' = H) ⟨⟨_, rfl⟩, rfl⟩ ?_ ?_
    · rintro i σ H' hi ⟨⟨u, rfl⟩, rfl⟩
      have hi : i < ws.length := by omega
      have hx : (ws.map V.str)[i]? = some (.str ws[i]) := by simp [hi]
      generalize ws[i] = v at hx
      refine ⟨_, rfl, _, rfl, a, _, _, _, rfl, rfl, .of ha, at0 hx, _, _, _, true, _, rfl, rfl, .str v, rfl, _, rfl, ?_⟩
      refine iteF ?_
      refine ⟨_, rfl, _, rfl, a, _, _, _, rfl, rfl, .of ha, at0 hx, _, rfl, _, rfl, b, _, _, _, rfl, rfl, .of hb, at0 hx, rfl, _, rfl, ?_⟩
      refine ite2 (fun hh => absurd hh (by simp)) (fun _ => ?_)
      exact ⟨⟨_, rfl⟩, rfl⟩
    · rintro σ H' ⟨⟨u, rfl⟩, rfl⟩
      exact q
theorem sc__law_stretches : FnScope ["_law_book_here", "_law_wanted", "_law_span", "_law_near_here", "_law_marks", "_law_word", "_law_fits", "_law_found", "_law_low", "_law_high", "_law_holds", "_law_less", "_law_fewer"] ["_law_book_here", "_law_wanted", "_law_span", "_law_near_here"] (defScope s__law_stretches) := ⟨rfl, rfl, rfl, by decide +kernel, rfl, by decide +kernel, by decide +kernel⟩
theorem ok__law_stretches {f : Addr} {fd : FuncData} (F : Fun K "_law_stretches" "_law_stretches" s__law_stretches f fd) (T : TB mg) : FnOk P w K mg base (CXF P w) true 1 f fd ["_law_book_here", "_law_wanted", "_law_span", "_law_near_here"] sp_lstretch := by
  refine F.okX sc__law_stretches (fun vs H Q E h => ?_) (fun cdv A outer s H vs Q E hr h hX => ?_)
  · obtain ⟨b, w, l, c, xs, rfl, _⟩ := h
    rfl
  · obtain ⟨b, w, l, c, xs, rfl, hb, hw, hl, Tr, hts, hws, hfs, hsp, q⟩ := h
    have el : (c.ws.map V.str).length = c.ws.length := List.length_map ..
    refine ⟨_, (@pss_cut _ _ _ _ _ (@ps_set _ _ (4) _ _ _ _ sc__law_stretches.nd (by exact rfl) (Or.inl rfl) (@pe_lst _ _ _ _ pa_nil) (by rfl) (by first | exact .inl rfl | exact .inr rfl | assumption)) (@pss_cut _ _ _ _ _ (@ps_for _ _ _ _ _ _ _ _ hX.own (by exact rfl) (@pi_listK _ K _ _ _ (pv 1) (by rfl)) (@pg_name _ _ (5) _ sc__law_stretches.nd (by exact rfl) (Or.inr rfl) (by first | exact .inl rfl | exact .inr rfl | assumption)) (@pss_cut _ _ _ _ _ (@ps_set _ _ (6) _ _ _ _ sc__law_stretches.nd (by exact rfl) (Or.inr rfl) (@pe_op _ _ _ _ _ _ _ _ op_cat (@pe_op _ _ _ _ _ _ _ _ op_cat (@pe_lst _ _ _ _ (@pa_c _ _ _ _ _ (pv 5) pa_nil (by rfl))) (@pe_comp _ _ _ _ _ _ _ _ _ _ _ _ _ _ (by exact rfl) (show CompScope ["_law_book_here", "_law_wanted", "_law_span", "_law_near_here", "_law_marks", "_law_word", "_law_fits", "_law_found", "_law_low", "_law_high", "_law_holds", "_law_less", "_law_fewer"] (defScope s__law_stretches) _ ["_law_x", "_law_y", "_law_price"] [5] ["_law_word"] from ⟨rfl, by decide +kernel, by decide +kernel, by decide +kernel, rfl, rfl, by decide +kernel, by decide +kernel, by decide +kernel⟩) (@pi_listK _ K _ _ _ (pv 3) (by rfl)) (fun _ _ _ _ _ => (@pg_tupK _ K _ _ _ (3) _ (by exact rfl) (@pgs_cons _ _ _ _ _ (@pg_name _ _ (0) _ (show (["_law_x", "_law_y", "_law_price", "_law_word"] : List Str).Nodup by decide +kernel) (by exact rfl) (Or.inl rfl) (by first | exact .inl rfl | exact .inr rfl | assumption)) (@pgs_cons _ _ _ _ _ (@pg_name _ _ (1) _ (show (["_law_x", "_law_y", "_law_price", "_law_word"] : List Str).Nodup by decide +kernel) (by exact rfl) (Or.inl rfl) (by first | exact .inl rfl | exact .inr rfl | assumption)) (@pgs_cons _ _ _ _ _ (@pg_name _ _ (2) _ (show (["_law_x", "_law_y", "_law_price", "_law_word"] : List Str).Nodup by decide +kernel) (by exact rfl) (Or.inl rfl) (by first | exact .inl rfl | exact .inr rfl | assumption)) pgs_nil (by rfl)) (by rfl)) (by rfl)) (by rfl) (by rfl) (by rfl))) (fun _ _ _ _ _ => (@pts_one _ _ _ (@pt_cmpR _ _ _ _ _ _ _ _ op_eq (pv 0) (pv 3) (nomark _)))) (fun _ _ _ _ _ => (pv 1)) (by intro _; rfl))) (@pe_comp _ _ _ _ _ _ _ _ _ _ _ _ _ _ (by exact rfl) (show CompScope ["_law_book_here", "_law_wanted", "_law_span", "_law_near_here", "_law_marks", "_law_word", "_law_fits", "_law_found", "_law_low", "_law_high", "_law_holds", "_law_less", "_law_fewer"] (defScope s__law_stretches) _ ["_law_x", "_law_y", "_law_price"] [5] ["_law_word"] from ⟨rfl, by decide +kernel, by decide +kernel, by decide +kernel, rfl, rfl, by decide +kernel, by decide +kernel, by decide +kernel⟩) (@pi_listK _ K _ _ _ (pv 3) (by rfl)) (fun _ _ _ _ _ => (@pg_tupK _ K _ _ _ (3) _ (by exact rfl) (@pgs_cons _ _ _ _ _ (@pg_name _ _ (0) _ (show (["_law_x", "_law_y", "_law_price", "_law_word"] : List Str).Nodup by decide +kernel) (by exact rfl) (Or.inl rfl) (by first | exact .inl rfl | exact .inr rfl | assumption)) (@pgs_cons _ _ _ _ _ (@pg_name _ _ (1) _ (show (["_law_x", "_law_y", "_law_price", "_law_word"] : List Str).Nodup by decide +kernel) (by exact rfl) (Or.inl rfl) (by first | exact .inl rfl | exact .inr rfl | assumption)) (@pgs_cons _ _ _ _ _ (@pg_name _ _ (2) _ (show (["_law_x", "_law_y", "_law_price", "_law_word"] : List Str).Nodup by decide +kernel) (by exact rfl) (Or.inl rfl) (by first | exact .inl rfl | exact .inr rfl | assumption)) pgs_nil (by rfl)) (by rfl)) (by rfl)) (by rfl) (by rfl) (by rfl))) (fun _ _ _ _ _ => (@pts_one _ _ _ (@pt_cmpR _ _ _ _ _ _ _ _ op_eq (pv 1) (pv 3) (nomark _)))) (fun _ _ _ _ _ => (pv 0)) (by intro _; rfl))) (by rfl) (by first | exact .inl rfl | exact .inr rfl | assumption)) (@pss_one _ _ _ (@ps_expr _ _ _ _ (@pe_bmK _ K _ _ _ _ _ _ _ _ _ _ _ PySem.F.plainAttrs_list PySem.F.slot_list_append PySem.F.type_list_append mt_append (pv 4) (@pa_c _ _ _ _ _ (@pe_comp _ _ _ _ _ _ _ _ _ _ _ _ _ _ (by exact rfl) (show CompScope ["_law_book_here", "_law_wanted", "_law_span", "_law_near_here", "_law_marks", "_law_word", "_law_fits", "_law_found", "_law_low", "_law_high", "_law_holds", "_law_less", "_law_fewer"] (defScope s__law_stretches) _ ["_law_other"] [6] ["_law_fits"] from ⟨rfl, by decide +kernel, by decide +kernel, by decide +kernel, rfl, rfl, by decide +kernel, by decide +kernel, by decide +kernel⟩) (@pi_listK _ K _ _ _ (pv 0) (by rfl)) (fun _ _ _ _ _ => (@pg_name _ _ (0) _ (show (["_law_other", "_law_fits"] : List Str).Nodup by decide +kernel) (by exact rfl) (Or.inl rfl) (by first | exact .inl rfl | exact .inr rfl | assumption))) (fun _ _ _ _ _ => pts_nil) (fun _ _ _ _ _ => (@pe_cmpR _ _ _ _ _ _ _ _ (op_in_seqK K) (pv 0) (pv 1) (by with_unfolding_all rfl))) (by intro _; rfl)) pa_nil (by rfl)) (by rfl) (by rfl) (by rfl) (by rfl) (by rfl) (by rfl)) (by rfl)))) (by intro _; rfl)) (@pss_cut _ _ _ _ _ (@ps_set _ _ (7) _ _ _ _ sc__law_stretches.nd (by exact rfl) (Or.inl rfl) (@pe_lst _ _ _ _ pa_nil) (by rfl) (by first | exact .inl rfl | exact .inr rfl | assumption)) (@pss_cut _ _ _ _ _ (@ps_for _ _ _ _ _ _ _ _ hX.own (by exact rfl) (@pi_range1 _ _ _ _ _ _ (by exact rfl) T.n_range (@pa_c _ _ _ _ _ (@pe_callB _ _ _ _ _ _ _ _ _ (call_len_seqK K) (by exact rfl) T.n_len PyProof.Rows.Boot.«len» (@pa_c _ _ _ _ _ (pv 0) pa_nil (by rfl)) (by decide) (by decide) (by rfl) (by rfl)) pa_nil (by rfl)) (by rfl)) (@pg_name _ _ (8) _ sc__law_stretches.nd (by exact rfl) (Or.inr rfl) (by first | exact .inl rfl | exact .inr rfl | assumption)) (@pss_one _ _ _ (@ps_for _ _ _ _ _ _ _ _ hX.own (by exact rfl) (@pi_range2 _ _ _ _ _ _ _ (by exact rfl) T.n_range (@pa_c _ _ _ _ _ (pv 8) (@pa_c _ _ _ _ _ (@pe_callB _ _ _ _ _ _ _ _ _ (call_min2 rfl) (by exact rfl) T.n_min PyProof.Rows.Boot.«min» (@pa_c _ _ _ _ _ (@pe_callB _ _ _ _ _ _ _ _ _ (call_len_seqK K) (by exact rfl) T.n_len PyProof.Rows.Boot.«len» (@pa_c _ _ _ _ _ (pv 0) pa_nil (by rfl)) (by decide) (by decide) (by rfl) (by rfl)) (@pa_c _ _ _ _ _ (@pe_op _ _ _ _ _ _ _ _ op_add (pv 8) (pv 2)) pa_nil (by rfl)) (by rfl)) (by decide) (by decide) (by rfl) (by rfl)) pa_nil (by rfl)) (by rfl)) (by rfl) (by rfl)) (@pg_name _ _ (9) _ sc__law_stretches.nd (by exact rfl) (Or.inr rfl) (by first | exact .inl rfl | exact .inr rfl | assumption)) (@pss_cut _ _ _ _ _ (@ps_set _ _ (10) _ _ _ _ sc__law_stretches.nd (by exact rfl) (Or.inl rfl) (@pe_callB _ _ _ _ _ _ _ _ _ (call_allK K rfl) (by exact rfl) T.n_all PyProof.Rows.Boot.«all» (@pa_c _ _ _ _ _ (@pe_comp _ _ _ _ _ _ _ _ _ _ _ _ _ _ (by exact rfl) (show CompScope ["_law_book_here", "_law_wanted", "_law_span", "_law_near_here", "_law_marks", "_law_word", "_law_fits", "_law_found", "_law_low", "_law_high", "_law_holds", "_law_less", "_law_fewer"] (defScope s__law_stretches) _ ["_law_row"] [8, 9] ["_law_low", "_law_high"] from ⟨rfl, by decide +kernel, by decide +kernel, by decide +kernel, rfl, rfl, by decide +kernel, by decide +kernel, by decide +kernel⟩) (@pi_listK _ K _ _ _ (pv 4) (by rfl)) (fun _ _ _ _ _ => (@pg_name _ _ (0) _ (show (["_law_row", "_law_low", "_law_high"] : List Str).Nodup by decide +kernel) (by exact rfl) (Or.inl rfl) (by first | exact .inl rfl | exact .inr rfl | assumption))) (fun _ _ _ _ _ => pts_nil) (fun _ _ _ _ _ => (@pe_callB _ _ _ _ _ _ _ _ _ (call_anyK K rfl) (by exact rfl) T.n_any PyProof.Rows.Boot.«any» (@pa_c _ _ _ _ _ (@pe_slice _ _ _ _ _ _ _ _ _ _ (sl_listK K) (pv 0) (@po_some _ _ _ (pv 1)) (@po_some _ _ _ (@pe_op _ _ _ _ _ _ _ _ op_add (pv 2) pe_int))) pa_nil (by rfl)) (by decide) (by decide) (by rfl) (by rfl))) (by intro _; rfl)) pa_nil (by rfl)) (by decide) (by decide) (by rfl) (by rfl)) (by rfl) (by first | exact .inl rfl | exact .inr rfl | assumption)) (@pss_cut _ _ _ _ _ (@ps_set _ _ (11) _ _ _ _ sc__law_stretches.nd (by exact rfl) (Or.inl rfl) (@pe_callB _ _ _ _ _ _ _ _ _ (call_allK K rfl) (by exact rfl) T.n_all PyProof.Rows.Boot.«all» (@pa_c _ _ _ _ _ (@pe_comp _ _ _ _ _ _ _ _ _ _ _ _ _ _ (by exact rfl) (show CompScope ["_law_book_here", "_law_wanted", "_law_span", "_law_near_here", "_law_marks", "_law_word", "_law_fits", "_law_found", "_law_low", "_law_high", "_law_holds", "_law_less", "_law_fewer"] (defScope s__law_stretches) _ ["_law_row"] [8, 9] ["_law_low", "_law_high"] from ⟨rfl, by decide +kernel, by decide +kernel, by decide +kernel, rfl, rfl, by decide +kernel, by decide +kernel, by decide +kernel⟩) (@pi_listK _ K _ _ _ (pv 4) (by rfl)) (fun _ _ _ _ _ => (@pg_name _ _ (0) _ (show (["_law_row", "_law_low", "_law_high"] : List Str).Nodup by decide +kernel) (by exact rfl) (Or.inl rfl) (by first | exact .inl rfl | exact .inr rfl | assumption))) (fun _ _ _ _ _ => pts_nil) (fun _ _ _ _ _ => (@pe_callB _ _ _ _ _ _ _ _ _ (call_anyK K rfl) (by exact rfl) T.n_any PyProof.Rows.Boot.«any» (@pa_c _ _ _ _ _ (@pe_slice _ _ _ _ _ _ _ _ _ _ (sl_listK K) (pv 0) (@po_some _ _ _ (@pe_op _ _ _ _ _ _ _ _ op_add (pv 1) pe_int)) (@po_some _ _ _ (@pe_op _ _ _ _ _ _ _ _ op_add (pv 2) pe_int))) pa_nil (by rfl)) (by decide) (by decide) (by rfl) (by rfl))) (by intro _; rfl)) pa_nil (by rfl)) (by decide) (by decide) (by rfl) (by rfl)) (by rfl) (by first | exact .inl rfl | exact .inr rfl | assumption)) (@pss_cut _ _ _ _ _ (@ps_set _ _ (12) _ _ _ _ sc__law_stretches.nd (by exact rfl) (Or.inl rfl) (@pe_callB _ _ _ _ _ _ _ _ _ (call_allK K rfl) (by exact rfl) T.n_all PyProof.Rows.Boot.«all» (@pa_c _ _ _ _ _ (@pe_comp _ _ _ _ _ _ _ _ _ _ _ _ _ _ (by exact rfl) (show CompScope ["_law_book_here", "_law_wanted", "_law_span", "_law_near_here", "_law_marks", "_law_word", "_law_fits", "_law_found", "_law_low", "_law_high", "_law_holds", "_law_less", "_law_fewer"] (defScope s__law_stretches) _ ["_law_row"] [8, 9] ["_law_low", "_law_high"] from ⟨rfl, by decide +kernel, by decide +kernel, by decide +kernel, rfl, rfl, by decide +kernel, by decide +kernel, by decide +kernel⟩) (@pi_listK _ K _ _ _ (pv 4) (by rfl)) (fun _ _ _ _ _ => (@pg_name _ _ (0) _ (show (["_law_row", "_law_low", "_law_high"] : List Str).Nodup by decide +kernel) (by exact rfl) (Or.inl rfl) (by first | exact .inl rfl | exact .inr rfl | assumption))) (fun _ _ _ _ _ => pts_nil) (fun _ _ _ _ _ => (@pe_callB _ _ _ _ _ _ _ _ _ (call_anyK K rfl) (by exact rfl) T.n_any PyProof.Rows.Boot.«any» (@pa_c _ _ _ _ _ (@pe_slice _ _ _ _ _ _ _ _ _ _ (sl_listK K) (pv 0) (@po_some _ _ _ (pv 1)) (@po_some _ _ _ (pv 2))) pa_nil (by rfl)) (by decide) (by decide) (by rfl) (by rfl))) (by intro _; rfl)) pa_nil (by rfl)) (by decide) (by decide) (by rfl) (by rfl)) (by rfl) (by first | exact .inl rfl | exact .inr rfl | assumption)) (@pss_one _ _ _ (@ps_if _ _ _ _ _ _ _ _ (@PW.pt _ _ _ (@pw_and _ _ _ _ _ _ _ (@pt_val _ _ _ (pv 10) (by intro _; rfl)) (@pw_and _ _ _ _ _ _ _ (@pt_not _ _ _ _ (@pt_val _ _ _ (pv 11) (by intro _; rfl))) (@pw_and1 _ _ _ _ (@pt_not _ _ _ _ (@pt_val _ _ _ (pv 12) (by intro _; rfl))))))) (@pss_one _ _ _ (@ps_expr _ _ _ _ (@pe_bmK _ K _ _ _ _ _ _ _ _ _ _ _ PySem.F.plainAttrs_list PySem.F.slot_list_append PySem.F.type_list_append mt_append (pv 7) (@pa_c _ _ _ _ _ (@pe_tup _ _ _ _ _ (@pa_c _ _ _ _ _ (pv 8) (@pa_c _ _ _ _ _ (pv 9) pa_nil (by rfl)) (by rfl))) pa_nil (by rfl)) (by rfl) (by rfl) (by rfl) (by rfl) (by rfl) (by rfl)) (by rfl))) pss_nil))))) (by intro _; rfl))) (by intro _; rfl)) (@pss_one _ _ _ (@ps_ret _ _ _ _ (pv 7))))))), ?_⟩
    refine ⟨fun σ H1 => ∃ m, σ = [some (.ref b), some (.ref w), some (.int c.span), some (.ref l), some (.ref m), none, none, none, none, none, none, none, none] ∧ H m = none ∧ H1 = upd H m (.lst []), ?_, ?_⟩
    · exact ⟨le_line (by simp), fun m hm => ⟨m, rfl, hm, rfl⟩⟩
    rintro σ H1 ⟨m, rfl, hm, rfl⟩
    -- the marks
    refine ⟨fun σ H1 => (∃ u5 u6, σ = [some (.ref b), some (.ref w), some (.int c.span), some (.ref l), some (.ref m), u5, u6, none, none, none, none, none, none]) ∧ Same H H1 ∧ ∃ ms, H1 m = some (.lst ms) ∧ MK H1 m c ms c.ts, ?_, ?_⟩
    · refine ⟨_, rfl, w, rfl, ⟨_, .of (Same.upd hm _ _ hw)⟩, ?_⟩
      refine for_list (xs := c.ts.map V.str) (fun i σ H' => (∃ u5 u6, σ = [some (.ref b), some (.ref w), some (.int c.span), some (.ref l), some (.ref m), u5, u6, none, none, none, none, none, none]) ∧ Same H H' ∧ ∃ ms, H' m = some (.lst ms) ∧ MK H' m c ms (c.ts.take i)) ⟨⟨_, _, rfl⟩, Same.upd hm, [], upd_same, .nil⟩ ?_ ?_ ?_
      · rintro i σ H' hi ⟨_, s1, _⟩
        exact .of (s1 _ _ hw)
      · rintro i x σ H' hx ⟨⟨u5, u6, rfl⟩, s1, ms, hm1, M1⟩
        obtain ⟨t, htw, rfl⟩ := word_at hx
        have hi : i < c.ts.length := (List.getElem?_eq_some_iff.mp htw).1
        have hml : ms.length ≤ 100 := by have := M1.1; rw [List.length_take] at this; omega
        refine ⟨fun σ H2 => ∃ ft, σ = [some (.ref b), some (.ref w), some (.int c.span), some (.ref l), some (.ref m), some (.str t), some (.ref ft), none, none, none, none, none, none] ∧ Same H' H2 ∧ H2 ft = some (.lst ((fitsW c.fs t).map V.str)), ?_, ?_⟩
        · refine ⟨_, rfl, le_line (by simp), fun p1 hp1 => ?_⟩
          have sA : Same H' (upd H' p1 (.lst [.str t])) := Same.upd hp1
          refine ⟨_, rfl, l, rfl, ⟨_, .of (sA _ _ (s1 _ _ hl))⟩, fun D hD => ?_⟩
          refine comp_list (xs := xs) (fun k ys σ H2 => (∃ u v x, σ = [u, v, x, some (.str t)]) ∧ ys = (fit1 (c.fs.take k) t).map V.str ∧ H2 = upd (upd H' p1 (.lst [.str t])) D (.lst ys)) ⟨⟨_, _, _, rfl⟩, rfl, rfl⟩ ?_ ?_ ?_
          · rintro k ys σ H2 hk ⟨_, _, rfl⟩
            exact .of (Same.upd hD _ _ (sA _ _ (s1 _ _ hl)))
          · rintro k x ys σ H2 hx ⟨⟨u, v, x0, rfl⟩, hy, rfl⟩
            have hk : k < c.fs.length := by rw [← Tr.1]; exact (List.getElem?_eq_some_iff.mp hx).1
            have hf : c.fs[k]? = some c.fs[k] := by simp [hk]
            generalize c.fs[k] = f0 at hf
            obtain ⟨t0, e1, g1⟩ := Tr.2 k f0 hf
            rw [hx] at e1
            cases e1
            obtain ⟨fx, fy, fp⟩ := f0
            have g2 := Same.upd (o := .lst ys) hD _ _ (sA _ _ (s1 _ _ g1))
            have e2 := fit1_succ (t := t) hf
            refine ⟨t0, _, rfl, .of g2, rfl, _, _, rfl, _, _, rfl, _, _, rfl, rfl, ?_⟩
            refine ⟨_, rfl, _, rfl, rfl, _, rfl, ?_⟩
            refine ite2 (fun h1 => ?_) (fun h1 => ?_)
            · have h1 : fx = t := by simpa using h1
              refine ⟨_, rfl, upd_same, ?_, ⟨_, _, _, rfl⟩, ?_, upd_upd⟩
              · rw [hy, List.length_map]; exact lt_line (by have := fit1_len c.fs t k; omega)
              · rw [hy, e2, if_pos h1, List.map_append]; rfl
            · have h1 : ¬ fx = t := by simpa using h1
              refine ⟨⟨_, _, _, rfl⟩, ?_, rfl⟩
              rw [hy, e2, if_neg h1, List.append_nil]
          · rintro ys σ H2 ⟨_, hy, rfl⟩
            rw [Tr.1, List.take_length] at hy
            have f1l : (fit1 c.fs t).length ≤ c.fs.length := by have := fit1_len c.fs t c.fs.length; rwa [List.take_length] at this
            have nD : p1 ≠ D := fun z => by subst z; rw [upd_same] at hD; cases hD
            have sB : Same H' (upd (upd H' p1 (.lst [.str t])) D (.lst ys)) := sA.trans (Same.upd hD)
            refine ⟨p1, D, _, _, rfl, rfl, by rw [upd_ne nD]; exact upd_same, upd_same, le_line (by rw [hy]; simp; omega), fun p2 hp2 => ?_⟩
            have sC : Same H' (upd (upd (upd H' p1 (.lst [.str t])) D (.lst ys)) p2 (.lst ([V.str t] ++ ys))) := sB.trans (Same.upd hp2)
            have hp2' : upd (upd (upd H' p1 (.lst [.str t])) D (.lst ys)) p2 (.lst ([V.str t] ++ ys)) p2 = some (.lst ([V.str t] ++ ys)) := upd_same
            generalize upd (upd (upd H' p1 (.lst [.str t])) D (.lst ys)) p2 (.lst ([V.str t] ++ ys)) = Hc at sC hp2'
            refine ⟨_, rfl, l, rfl, ⟨_, .of (sC _ _ (s1 _ _ hl))⟩, fun D2 hD2 => ?_⟩
            refine comp_list (xs := xs) (fun k zs σ H2 => (∃ u v x, σ = [u, v, x, some (.str t)]) ∧ zs = (fit2 (c.fs.take k) t).map V.str ∧ H2 = upd Hc D2 (.lst zs)) ⟨⟨_, _, _, rfl⟩, rfl, rfl⟩ ?_ ?_ ?_
            · rintro k zs σ H2 hk ⟨_, _, rfl⟩
              exact .of (Same.upd hD2 _ _ (sC _ _ (s1 _ _ hl)))
            · rintro k x zs σ H2 hx ⟨⟨u, v, x0, rfl⟩, hz, rfl⟩
              have hk : k < c.fs.length := by rw [← Tr.1]; exact (List.getElem?_eq_some_iff.mp hx).1
              have hf : c.fs[k]? = some c.fs[k] := by simp [hk]
              generalize c.fs[k] = f0 at hf
              obtain ⟨t0, e1, g1⟩ := Tr.2 k f0 hf
              rw [hx] at e1
              cases e1
              obtain ⟨fx, fy, fp⟩ := f0
              have g2 := Same.upd (o := .lst zs) hD2 _ _ (sC _ _ (s1 _ _ g1))
              have e2 := fit2_succ (t := t) hf
              refine ⟨t0, _, rfl, .of g2, rfl, _, _, rfl, _, _, rfl, _, _, rfl, rfl, ?_⟩
              refine ⟨_, rfl, _, rfl, rfl, _, rfl, ?_⟩
              refine ite2 (fun h1 => ?_) (fun h1 => ?_)
              · have h1 : fy = t := by simpa using h1
                refine ⟨_, rfl, upd_same, ?_, ⟨_, _, _, rfl⟩, ?_, upd_upd⟩
                · rw [hz, List.length_map]; exact lt_line (by have := fit2_len c.fs t k; omega)
                · rw [hz, e2, if_pos h1, List.map_append]; rfl
              · have h1 : ¬ fy = t := by simpa using h1
                refine ⟨⟨_, _, _, rfl⟩, ?_, rfl⟩
                rw [hz, e2, if_neg h1, List.append_nil]
            · rintro zs σ H2 ⟨_, hz, rfl⟩
              rw [Tr.1, List.take_length] at hz
              have f2l : (fit2 c.fs t).length ≤ c.fs.length := by have := fit2_len c.fs t c.fs.length; rwa [List.take_length] at this
              refine ⟨p2, D2, _, _, rfl, rfl, Same.upd hD2 _ _ hp2', upd_same, le_line (by rw [hy, hz]; simp; omega), fun p3 hp3 => ⟨p3, rfl, (sC.trans (Same.upd hD2)).trans (Same.upd hp3), ?_⟩⟩
              rw [upd_same, hy, hz]
              simp [fitsW, fit1, fit2]
        rintro σ H2 ⟨ft, rfl, s2, hft⟩
        have s3 : Same H H2 := s1.trans s2
        have hm2 := s2 _ _ hm1
        have M2 := M1.same s2
        refine ⟨_, rfl, .inl ⟨rfl, _, .of hm2⟩, _, rfl, b, rfl, ⟨_, .of (s3 _ _ hb)⟩, fun D hD => ?_⟩
        have nDm : D ≠ m := fun z => by subst z; rw [hm2] at hD; cases hD
        refine comp_list (xs := c.ws.map V.str) (fun k ys σ H3 => (∃ u, σ = [u, some (.ref ft)]) ∧ ys = ((c.bits t).take k).map V.bl ∧ H3 = upd H2 D (.lst ys)) ⟨⟨_, rfl⟩, rfl, rfl⟩ ?_ ?_ ?_
        · rintro k ys σ H3 hk ⟨_, _, rfl⟩
          exact .of (Same.upd hD _ _ (s3 _ _ hb))
        · rintro k x ys σ H3 hx ⟨⟨u, rfl⟩, hy, rfl⟩
          obtain ⟨x, hxw, rfl⟩ := word_at hx
          have hk : k < c.ws.length := (List.getElem?_eq_some_iff.mp hxw).1
          refine gN_yes ?_
          refine ⟨_, rfl, _, rfl, ft, _, rfl, .inl (.of (Same.upd hD _ _ hft)), rfl, strs_flat _, upd_same, ?_, ⟨_, rfl⟩, ?_, upd_upd⟩
          · rw [hy, List.length_map, List.length_take]; exact lt_line (by simp [NS.bits]; omega)
          · rw [hy, List.take_succ, List.map_append]
            congr 1
            simp only [NS.bits, List.getElem?_map, hxw, Option.map_some, Option.toList_some, List.map_cons, List.map_nil, inV_str]
            simp
        · rintro ys σ H3 ⟨_, hy, rfl⟩
          have hy : ys = (c.bits t).map V.bl := by rw [hy, List.take_of_length_le (by simp [NS.bits])]
          subst hy
          refine ⟨m, ms, _, rfl, rfl, Same.upd hD _ _ hm2, lt_line (by omega), ⟨_, _, rfl⟩, (s3.trans (Same.upd hD)).upd2 hm, _, upd_same, ?_⟩
          rw [List.take_succ, htw]
          exact ((M2.same (Same.upd hD)).snoc nDm upd_same).but
      · rintro σ H' ⟨⟨u5, u6, rfl⟩, s1, ms, hm1, M1⟩
        rw [List.length_map, List.take_length] at M1
        exact ⟨⟨_, _, rfl⟩, s1, ms, hm1, M1⟩
    rintro σ H1 ⟨⟨u5, u6, rfl⟩, s1, ms, hm1, M1⟩
    refine ⟨fun σ H2 => ∃ r, σ = [some (.ref b), some (.ref w), some (.int c.span), some (.ref l), some (.ref m), u5, u6, some (.ref r), none, none, none, none, none] ∧ H1 r = none ∧ H2 = upd H1 r (.lst []), ?_, ?_⟩
    · exact ⟨le_line (by simp), fun r hr => ⟨r, rfl, hr, rfl⟩⟩
    rintro σ H2 ⟨r, rfl, hr1, rfl⟩
    have hr : H r = none := s1.free hr1
    refine ⟨fun σ H3 => (∃ v1 v2 v3 v4 v5, σ = [some (.ref b), some (.ref w), some (.int c.span), some (.ref l), some (.ref m), u5, u6, some (.ref r), v1, v2, v3, v4, v5]) ∧ Same H H3 ∧ ∃ vs, H3 r = some (.lst vs) ∧ Prs H3 vs (c.due c.ws.length), ?_, ?_⟩
    rotate_left
    · rintro σ H3 ⟨⟨v1, v2, v3, v4, v5, rfl⟩, s3, vs, hr3, P3⟩
      exact ⟨_, rfl, q H3 r vs s3 hr hr3 P3⟩
    have keepM : ∀ H', Same H1 H' → MK H' m c ms c.ts ∧ H' m = some (.lst ms) := fun H' s => ⟨M1.same s, s _ _ hm1⟩
    refine ⟨_, rfl, b, _, rfl, .inl (.of (Same.upd hr1 _ _ (s1 _ _ hb))), ((c.ws.map V.str).length : Int), rfl, by omega, by omega, ?_⟩
    refine for_range (fun i σ H' => (∃ v1 v2 v3 v4 v5, σ = [some (.ref b), some (.ref w), some (.int c.span), some (.ref l), some (.ref m), u5, u6, some (.ref r), v1, v2, v3, v4, v5]) ∧ Same H1 H' ∧ ∃ vs, H' r = some (.lst vs) ∧ Prs H' vs (c.due i)) ⟨⟨_, _, _, _, _, rfl⟩, Same.upd hr1, [], upd_same, .nil⟩ ?_ ?_
    · rintro i σ H' hi ⟨⟨v1, v2, v3, v4, v5, rfl⟩, s2, vs, hr2, P2⟩
      have hi : i < c.ws.length := by omega
      have ei : (0 + (i : Int)) = (i : Int) := by omega
      rw [ei]
      have eb : (if ((i : Int) + (c.span : Int)) < ((c.ws.map V.str).length : Int) then ((i : Int) + (c.span : Int)) else ((c.ws.map V.str).length : Int)) = ((min c.ws.length (i + c.span) : Nat) : Int) := by
        rw [el]
        split <;> omega
      refine ⟨_, rfl, _, rfl, b, _, rfl, .inl (.of (s2 _ _ (s1 _ _ hb))), _, rfl, _, rfl, _, _, rfl, rfl, _, _, rfl, _, _, rfl, ?_, ?_⟩
      · rw [eb]; omega
      rw [eb, show ((((min c.ws.length (i + c.span) : Nat) : Int)) - (i : Int)).toNat = min c.ws.length (i + c.span) - i by omega]
      refine for_range (fun j σ H' => (∃ v2 v3 v4 v5, σ = [some (.ref b), some (.ref w), some (.int c.span), some (.ref l), some (.ref m), u5, u6, some (.ref r), some (.int i), v2, v3, v4, v5]) ∧ Same H1 H' ∧ ∃ vs, H' r = some (.lst vs) ∧ Prs H' vs (c.due i ++ c.row i j)) ⟨⟨_, _, _, _, rfl⟩, s2, vs, hr2, by simpa [NS.row] using P2⟩ ?_ ?_
      · clear hr2 P2 s2 vs v1 v2 v3 v4 v5 H'
        rintro j σ H' hj ⟨⟨v2, v3, v4, v5, rfl⟩, s2, vs, hr2, P2⟩
        have hjl : i + j < c.ws.length := by omega
        have ej : ((i : Int) + (j : Int)) = ((i + j : Nat) : Int) := by omega
        rw [ej]
        generalize hh : i + j = hi2 at hjl
        refine ⟨fun σ H2 => σ = [some (.ref b), some (.ref w), some (.int c.span), some (.ref l), some (.ref m), u5, u6, some (.ref r), some (.int i), some (.int hi2), some (.bl (c.holds i (hi2 + 1))), v4, v5] ∧ Same H' H2, ?_, ?_⟩
        · refine ⟨_, rfl, m, rfl, ⟨_, .of (keepM H' s2).2⟩, fun D hD => ?_⟩
          refine comp_list (xs := ms) (fun k ys σ H3 => (∃ u, σ = [u, some (.int i), some (.int hi2)]) ∧ ys = ((c.ts.take k).map fun t => (((c.bits t).drop i).take (hi2 + 1 - i)).any id).map V.bl ∧ Same H' H3 ∧ H3 D = some (.lst ys)) ⟨⟨_, rfl⟩, rfl, Same.upd hD, upd_same⟩ ?_ ?_ ?_
          · rintro k ys σ H3 hk ⟨_, _, s4, _⟩
            exact .of (keepM H3 (s2.trans s4)).2
          · rintro k x ys σ H3 hx ⟨⟨u, rfl⟩, hy, s4, hD4⟩
            have hk : k < c.ts.length := by rw [← M1.1]; exact (List.getElem?_eq_some_iff.mp hx).1
            have ht : c.ts[k]? = some c.ts[k] := by simp [hk]
            generalize c.ts[k] = t at ht
            obtain ⟨a1, e1, _, g1⟩ := (keepM H3 (s2.trans s4)).1.2 k t ht
            rw [hx] at e1
            cases e1
            have ec : ((hi2 : Int) + 1) = ((hi2 + 1 : Nat) : Int) := by omega
            have bl : ((c.bits t).map V.bl).length = c.ws.length := by simp [NS.bits]
            refine gN_yes ?_
            refine ⟨_, rfl, _, rfl, _, rfl, _, rfl, _, _, rfl, rfl, _, rfl, a1, _, rfl, .of g1, fun p hp => ?_⟩
            rw [ec, cut_two (by omega) (by omega), ← List.map_drop, ← List.map_take]
            have hyl : ys.length < sizeLine := by rw [hy, List.length_map, List.length_map, List.length_take]; exact lt_line (by omega)
            refine ⟨p, _, rfl, .of upd_same, Same.upd hp _ _ hD4, hyl, ⟨_, rfl⟩, ?_, (s4.trans (Same.upd hp)).upd2 hD, upd_same⟩
            rw [hy, List.take_succ, ht, List.map_append, List.map_append]; rfl
          · rintro ys σ H3 ⟨_, hy, s4, hD4⟩
            rw [M1.1, List.take_length] at hy
            rw [hy] at hD4
            refine ⟨D, _, rfl, .of hD4, ?_, s4⟩
            simp only [List.all_map]
            rfl
        rintro σ H2 ⟨rfl, s3⟩
        have s2' : Same H1 H2 := s2.trans s3
        refine ⟨fun σ H3 => σ = [some (.ref b), some (.ref w), some (.int c.span), some (.ref l), some (.ref m), u5, u6, some (.ref r), some (.int i), some (.int hi2), some (.bl (c.holds i (hi2 + 1))), some (.bl (c.holds (i + 1) (hi2 + 1))), v5] ∧ Same H2 H3, ?_, ?_⟩
        · refine ⟨_, rfl, m, rfl, ⟨_, .of (keepM H2 s2').2⟩, fun D hD => ?_⟩
          refine comp_list (xs := ms) (fun k ys σ H3 => (∃ u, σ = [u, some (.int i), some (.int hi2)]) ∧ ys = ((c.ts.take k).map fun t => (((c.bits t).drop (i + 1)).take (hi2 + 1 - (i + 1))).any id).map V.bl ∧ Same H2 H3 ∧ H3 D = some (.lst ys)) ⟨⟨_, rfl⟩, rfl, Same.upd hD, upd_same⟩ ?_ ?_ ?_
          · rintro k ys σ H3 hk ⟨_, _, s4, _⟩
            exact .of (keepM H3 (s2'.trans s4)).2
          · rintro k x ys σ H3 hx ⟨⟨u, rfl⟩, hy, s4, hD4⟩
            have hk : k < c.ts.length := by rw [← M1.1]; exact (List.getElem?_eq_some_iff.mp hx).1
            have ht : c.ts[k]? = some c.ts[k] := by simp [hk]
            generalize c.ts[k] = t at ht
            obtain ⟨a1, e1, _, g1⟩ := (keepM H3 (s2'.trans s4)).1.2 k t ht
            rw [hx] at e1
            cases e1
            have ec : ((hi2 : Int) + 1) = ((hi2 + 1 : Nat) : Int) := by omega
            have ec2 : ((i : Int) + 1) = ((i + 1 : Nat) : Int) := by omega
            have bl : ((c.bits t).map V.bl).length = c.ws.length := by simp [NS.bits]
            refine gN_yes ?_
            refine ⟨_, rfl, _, rfl, _, _, rfl, rfl, _, rfl, _, rfl, _, _, rfl, rfl, _, rfl, a1, _, rfl, .of g1, fun p hp => ?_⟩
            rw [ec, ec2, cut_two (by omega) (by omega), ← List.map_drop, ← List.map_take]
            have hyl : ys.length < sizeLine := by rw [hy, List.length_map, List.length_map, List.length_take]; exact lt_line (by omega)
            refine ⟨p, _, rfl, .of upd_same, Same.upd hp _ _ hD4, hyl, ⟨_, rfl⟩, ?_, (s4.trans (Same.upd hp)).upd2 hD, upd_same⟩
            rw [hy, List.take_succ, ht, List.map_append, List.map_append]; rfl
          · rintro ys σ H3 ⟨_, hy, s4, hD4⟩
            rw [M1.1, List.take_length] at hy
            rw [hy] at hD4
            refine ⟨D, _, rfl, .of hD4, ?_, s4⟩
            simp only [List.all_map]
            rfl
        rintro σ H3 ⟨rfl, s4⟩
        have s3' : Same H1 H3 := s2'.trans s4
        refine ⟨fun σ H4 => σ = [some (.ref b), some (.ref w), some (.int c.span), some (.ref l), some (.ref m), u5, u6, some (.ref r), some (.int i), some (.int hi2), some (.bl (c.holds i (hi2 + 1))), some (.bl (c.holds (i + 1) (hi2 + 1))), some (.bl (c.holds i hi2))] ∧ Same H3 H4, ?_, ?_⟩
        · refine ⟨_, rfl, m, rfl, ⟨_, .of (keepM H3 s3').2⟩, fun D hD => ?_⟩
          refine comp_list (xs := ms) (fun k ys σ H4 => (∃ u, σ = [u, some (.int i), some (.int hi2)]) ∧ ys = ((c.ts.take k).map fun t => (((c.bits t).drop i).take (hi2 - i)).any id).map V.bl ∧ Same H3 H4 ∧ H4 D = some (.lst ys)) ⟨⟨_, rfl⟩, rfl, Same.upd hD, upd_same⟩ ?_ ?_ ?_
          · rintro k ys σ H4 hk ⟨_, _, s5, _⟩
            exact .of (keepM H4 (s3'.trans s5)).2
          · rintro k x ys σ H4 hx ⟨⟨u, rfl⟩, hy, s5, hD4⟩
            have hk : k < c.ts.length := by rw [← M1.1]; exact (List.getElem?_eq_some_iff.mp hx).1
            have ht : c.ts[k]? = some c.ts[k] := by simp [hk]
            generalize c.ts[k] = t at ht
            obtain ⟨a1, e1, _, g1⟩ := (keepM H4 (s3'.trans s5)).1.2 k t ht
            rw [hx] at e1
            cases e1
            have bl : ((c.bits t).map V.bl).length = c.ws.length := by simp [NS.bits]
            refine gN_yes ?_
            refine ⟨_, rfl, _, rfl, _, rfl, _, rfl, _, rfl, a1, _, rfl, .of g1, fun p hp => ?_⟩
            rw [cut_two (by omega) (by omega), ← List.map_drop, ← List.map_take]
            have hyl : ys.length < sizeLine := by rw [hy, List.length_map, List.length_map, List.length_take]; exact lt_line (by omega)
            refine ⟨p, _, rfl, .of upd_same, Same.upd hp _ _ hD4, hyl, ⟨_, rfl⟩, ?_, (s5.trans (Same.upd hp)).upd2 hD, upd_same⟩
            rw [hy, List.take_succ, ht, List.map_append, List.map_append]; rfl
          · rintro ys σ H4 ⟨_, hy, s5, hD4⟩
            rw [M1.1, List.take_length] at hy
            rw [hy] at hD4
            refine ⟨D, _, rfl, .of hD4, ?_, s5⟩
            simp only [List.all_map]
            rfl
        rintro σ H4 ⟨rfl, s5⟩
        have s6 : Same H' H4 := (s3.trans s4).trans s5
        have s7 : Same H1 H4 := s2.trans s6
        have hr4 := s6 _ _ hr2
        have P4 := P2.same s6
        have rs := c.row_succ i j
        rw [hh] at rs
        have small : vs.length ≤ 100000 := by
          rw [P4.1, List.length_append]
          have h1 := due_len c i
          have h2 := row_len c i j
          have h3 : i * c.ws.length ≤ 100 * 100 := Nat.mul_le_mul (by omega) hws
          omega
        have no : ¬ c.ok i hi2 = true → Prs H4 vs (c.due i ++ c.row i (j + 1)) := fun hn => by
          rw [rs, if_neg hn, List.append_nil]; exact P4
        refine ⟨_, rfl, _, rfl, ?_⟩
        refine ite2 (fun h1 => ?_) (fun h1 => ?_)
        rotate_left
        · have h1 : c.holds i (hi2 + 1) = false := by simpa using h1
          exact iteF ⟨⟨_, _, _, _, rfl⟩, s7, vs, hr4, no (by simp [NS.ok, h1])⟩
        have h1 : c.holds i (hi2 + 1) = true := by simpa using h1
        refine ⟨_, rfl, _, rfl, ?_⟩
        refine ite2 (fun h2 => ?_) (fun h2 => ?_)
        rotate_left
        · have h2 : c.holds (i + 1) (hi2 + 1) = true := by simpa using h2
          exact iteF ⟨⟨_, _, _, _, rfl⟩, s7, vs, hr4, no (by simp [NS.ok, h2])⟩
        have h2 : c.holds (i + 1) (hi2 + 1) = false := by simpa using h2
        refine ⟨_, rfl, _, rfl, ?_⟩
        refine ite2 (fun h3 => ?_) (fun h3 => ?_)
        rotate_left
        · have h3 : c.holds i hi2 = true := by simpa using h3
          exact ⟨⟨_, _, _, _, rfl⟩, s7, vs, hr4, no (by simp [NS.ok, h3])⟩
        have h3 : c.holds i hi2 = false := by simpa using h3
        refine ⟨_, rfl, .inl ⟨rfl, _, .of hr4⟩, _, rfl, _, rfl, le_line (by simp), fun t1 ht1 => ⟨r, vs, _, rfl, rfl, Same.upd ht1 _ _ hr4, lt_line (by omega), ⟨_, _, _, _, rfl⟩, (s7.trans (Same.upd ht1)).upd2 hr1, _, upd_same, ?_⟩⟩
        have P6 : Prs (upd H4 t1 (.tup (prV ((i : Int), (hi2 : Int))))) (vs ++ [.ref t1]) (c.due i ++ c.row i (j + 1)) := by
          rw [rs, if_pos (by simp [NS.ok, h1, h2, h3]), ← List.append_assoc]
          exact (P4.same (Same.upd ht1)).snoc upd_same
        exact P6.tups (Tups.lst (Same.upd ht1 _ _ hr4))
      · rintro σ H2 ⟨⟨v2, v3, v4, v5, rfl⟩, s3, vs3, hr3, P3⟩
        rw [← c.due_succ] at P3
        exact ⟨⟨_, _, _, _, _, rfl⟩, s3, vs3, hr3, P3⟩
    · rintro σ H2 ⟨⟨v1, v2, v3, v4, v5, rfl⟩, s3, vs3, hr3, P3⟩
      rw [el] at P3
      exact ⟨⟨_, _, _, _, _, rfl⟩, s1.trans s3, vs3, hr3, P3⟩
theorem sc_law : FnScope ["_law_script", "_law_bank_here", "_law_most", "_law_book_here", "_law_k", "_law_near_here", "_law_spot", "_law_wanted", "_law_span", "_law_due", "_law_handed", "_law_asked", "_law_terms", "_law_told", "_law_again"] ["_law_script"] (defScope s_law) := ⟨rfl, rfl, rfl, by decide +kernel, rfl, by decide +kernel, by decide +kernel⟩
theorem ok_law {f : Addr} {fd : FuncData} (F : Fun K "law" "law" s_law f fd) (T : TB mg) (D__law_at : IsDef P w K mg base true 1 "_law_at" ["_law_script", "_law_k"] (sp_at K)) (D__law_bank : IsDef P w K mg base true 1 "_law_bank" ["_law_cell", "_law_other", "_law_many"] sp_bank) (D__law_book : IsDef P w K mg base true 2 "_law_book" ["_law_script", "_law_cell", "_law_spot", "_law_many", "_law_bank_here"] (sp_book K)) (D__law_near : IsDef P w K mg base true 1 "_law_near" ["_law_cell", "_law_bank_here", "_law_same"] sp_near) (D__law_stretches : IsDef P w K mg base true 1 "_law_stretches" ["_law_book_here", "_law_wanted", "_law_span", "_law_near_here"] sp_lstretch) (D__law_texts : IsDef P w K mg base true 1 "_law_texts" ["_law_found", "_law_due"] sp_texts) (D__law_pairs : IsDef P w K mg base true 2 "_law_pairs" ["_law_found"] sp_lpairs) (D_near_stretches : IsDef P w K mg base true 3 "near_stretches" ["words", "told", "within", "terms"] (sp_stretch C_Terms)) (N6_Terms : IsNew P w K mg base true 5 "Terms" C_Terms ["self", "same", "out", "into", "least", "part", "near"] [] (sp_init C_Terms C_BadTerms C_BadNear)) : FnOk P w K mg base (CXF P w) true 7 f fd ["_law_script"] (spLaw K) := by
  refine F.okX sc_law (fun vs H Q E h => ?_) (fun cdv A outer s H vs Q E hr h hX => ?_)
  · obtain ⟨a, ns, rfl, _⟩ := h
    rfl
  · obtain ⟨a, ns, rfl, hS, hlen, q⟩ := h
    have hu := hr.units
    have hu : (A.deeper (PyProof.Rows.envOfC "law" (defScope s_law) s.heap.objs.size f cdv)).units + 1 < cLine := by omega
    have hu0 : (A.deeper (PyProof.Rows.envOfC "law" (defScope s_law) s.heap.objs.size f cdv)).units < cLine := by omega
    have c2 : (0 : Int) < 2 := by decide
    have c4 : (0 : Int) < 4 := by decide
    have c6 : (0 : Int) < 6 := by decide
    have c8 : (0 : Int) < 8 := by decide
    have c40 : (0 : Int) < 40 := by decide
    refine ⟨_, (@pss_cut _ _ _ _ _ (@ps_set _ _ (1) _ _ _ _ sc_law.nd (by exact rfl) (Or.inl rfl) (@pe_def _ _ _ _ _ _ _ _ _ _ _ _ D__law_bank (hr.mono (by decide)) passF (@pa_c _ _ _ _ _ (@pe_def _ _ _ _ _ _ _ _ _ _ _ _ D__law_at (hr.mono (by decide)) passF (@pa_c _ _ _ _ _ (pv 0) (@pa_c _ _ _ _ _ pe_int pa_nil (by rfl)) (by rfl)) (by rfl) (by decide) (by rfl) (by rfl)) (@pa_c _ _ _ _ _ (@pe_def _ _ _ _ _ _ _ _ _ _ _ _ D__law_at (hr.mono (by decide)) passF (@pa_c _ _ _ _ _ (pv 0) (@pa_c _ _ _ _ _ pe_int pa_nil (by rfl)) (by rfl)) (by rfl) (by decide) (by rfl) (by rfl)) (@pa_c _ _ _ _ _ (@pe_op _ _ _ _ _ _ _ _ op_add pe_int (@pe_op _ _ _ _ _ _ _ _ op_mod (@pe_def _ _ _ _ _ _ _ _ _ _ _ _ D__law_at (hr.mono (by decide)) passF (@pa_c _ _ _ _ _ (pv 0) (@pa_c _ _ _ _ _ pe_int pa_nil (by rfl)) (by rfl)) (by rfl) (by decide) (by rfl) (by rfl)) pe_int)) pa_nil (by rfl)) (by rfl)) (by rfl)) (by rfl) (by decide) (by rfl) (by rfl)) (by rfl) (by first | exact .inl rfl | exact .inr rfl | assumption)) (@pss_cut _ _ _ _ _ (@ps_set _ _ (2) _ _ _ _ sc_law.nd (by exact rfl) (Or.inl rfl) (@pe_ix _ _ _ _ _ _ _ (ix_listK K) (@pe_lst _ _ _ _ (@pa_c _ _ _ _ _ pe_int (@pa_c _ _ _ _ _ pe_int (@pa_c _ _ _ _ _ pe_int (@pa_c _ _ _ _ _ pe_int pa_nil (by rfl)) (by rfl)) (by rfl)) (by rfl))) (@pe_op _ _ _ _ _ _ _ _ op_mod (@pe_def _ _ _ _ _ _ _ _ _ _ _ _ D__law_at (hr.mono (by decide)) passF (@pa_c _ _ _ _ _ (pv 0) (@pa_c _ _ _ _ _ pe_int pa_nil (by rfl)) (by rfl)) (by rfl) (by decide) (by rfl) (by rfl)) pe_int) (fun _ _ => rfl)) (by rfl) (by first | exact .inl rfl | exact .inr rfl | assumption)) (@pss_cut _ _ _ _ _ (@ps_set _ _ (3) _ _ _ _ sc_law.nd (by exact rfl) (Or.inl rfl) (@pe_def _ _ _ _ _ _ _ _ _ _ _ _ D__law_book (hr.mono (by decide)) passF (@pa_c _ _ _ _ _ (pv 0) (@pa_c _ _ _ _ _ (@pe_def _ _ _ _ _ _ _ _ _ _ _ _ D__law_at (hr.mono (by decide)) passF (@pa_c _ _ _ _ _ (pv 0) (@pa_c _ _ _ _ _ pe_int pa_nil (by rfl)) (by rfl)) (by rfl) (by decide) (by rfl) (by rfl)) (@pa_c _ _ _ _ _ pe_int (@pa_c _ _ _ _ _ (@pe_op _ _ _ _ _ _ _ _ op_sub (pv 2) (@pe_op _ _ _ _ _ _ _ _ op_mod (@pe_def _ _ _ _ _ _ _ _ _ _ _ _ D__law_at (hr.mono (by decide)) passF (@pa_c _ _ _ _ _ (pv 0) (@pa_c _ _ _ _ _ pe_int pa_nil (by rfl)) (by rfl)) (by rfl) (by decide) (by rfl) (by rfl)) (@pe_op _ _ _ _ _ _ _ _ op_add (pv 2) pe_int))) (@pa_c _ _ _ _ _ (pv 1) pa_nil (by rfl)) (by rfl)) (by rfl)) (by rfl)) (by rfl)) (by rfl) (by decide) (by rfl) (by rfl)) (by rfl) (by first | exact .inl rfl | exact .inr rfl | assumption)) (@pss_cut _ _ _ _ _ (@ps_if _ _ _ _ _ _ _ _ (@PW.pt _ _ _ (@pw_and _ _ _ _ _ _ _ (@pt_cmpR _ _ _ _ _ _ _ _ op_eq (@pe_op _ _ _ _ _ _ _ _ op_mod (@pe_def _ _ _ _ _ _ _ _ _ _ _ _ D__law_at (hr.mono (by decide)) passF (@pa_c _ _ _ _ _ (pv 0) (@pa_c _ _ _ _ _ pe_int pa_nil (by rfl)) (by rfl)) (by rfl) (by decide) (by rfl) (by rfl)) pe_int) pe_int (nomark _)) (@pw_and1 _ _ _ _ (@pt_cmpR _ _ _ _ _ _ _ _ (op_ne_nilK K hu0) (pv 3) (@pe_lst _ _ _ _ pa_nil) (nomark _))))) (@pss_cut _ _ _ _ _ (@ps_set _ _ (3) _ _ _ _ sc_law.nd (by exact rfl) (Or.inl rfl) (@pe_op _ _ _ _ _ _ _ _ op_rep (@pe_lst _ _ _ _ (@pa_c _ _ _ _ _ (@pe_ix _ _ _ _ _ _ _ (ix_listK K) (pv 1) pe_int (fun _ _ => rfl)) pa_nil (by rfl))) (@pe_callB _ _ _ _ _ _ _ _ _ (call_len_seqK K) (by exact rfl) T.n_len PyProof.Rows.Boot.«len» (@pa_c _ _ _ _ _ (pv 3) pa_nil (by rfl)) (by decide) (by decide) (by rfl) (by rfl))) (by rfl) (by first | exact .inl rfl | exact .inr rfl | assumption)) (@pss_one _ _ _ (@ps_for _ _ _ _ _ _ _ _ hX.own (by exact rfl) (@pi_range1 _ _ _ _ _ _ (by exact rfl) T.n_range (@pa_c _ _ _ _ _ (@pe_callB _ _ _ _ _ _ _ _ _ (call_len_seqK K) (by exact rfl) T.n_len PyProof.Rows.Boot.«len» (@pa_c _ _ _ _ _ (pv 1) pa_nil (by rfl)) (by decide) (by decide) (by rfl) (by rfl)) pa_nil (by rfl)) (by rfl)) (@pg_name _ _ (4) _ sc_law.nd (by exact rfl) (Or.inl rfl) (by first | exact .inl rfl | exact .inr rfl | assumption)) (@pss_one _ _ _ (@ps_asg _ _ _ _ _ _ (@pe_ix _ _ _ _ _ _ _ (ix_listK K) (pv 1) (pv 4) (fun _ _ => rfl)) (@pg_sub _ _ _ _ _ _ _ (pv 3) (@pe_op _ _ _ _ _ _ _ _ op_mod (@pe_def _ _ _ _ _ _ _ _ _ _ _ _ D__law_at (hr.mono (by decide)) passF (@pa_c _ _ _ _ _ (pv 0) (@pa_c _ _ _ _ _ (@pe_op _ _ _ _ _ _ _ _ op_add pe_int (pv 4)) pa_nil (by rfl)) (by rfl)) (by rfl) (by decide) (by rfl) (by rfl)) (@pe_callB _ _ _ _ _ _ _ _ _ (call_len_seqK K) (by exact rfl) T.n_len PyProof.Rows.Boot.«len» (@pa_c _ _ _ _ _ (pv 3) pa_nil (by rfl)) (by decide) (by decide) (by rfl) (by rfl))) set_list (by intro _; rfl)) (by rfl) (by rfl) (by rfl))) (by intro _; rfl)))) pss_nil) (@pss_cut _ _ _ _ _ (@ps_set _ _ (5) _ _ _ _ sc_law.nd (by exact rfl) (Or.inl rfl) (@pe_def _ _ _ _ _ _ _ _ _ _ _ _ D__law_near (hr.mono (by decide)) passF (@pa_c _ _ _ _ _ (@pe_op _ _ _ _ _ _ _ _ op_mul (@pe_op _ _ _ _ _ _ _ _ op_fdiv (@pe_def _ _ _ _ _ _ _ _ _ _ _ _ D__law_at (hr.mono (by decide)) passF (@pa_c _ _ _ _ _ (pv 0) (@pa_c _ _ _ _ _ pe_int pa_nil (by rfl)) (by rfl)) (by rfl) (by decide) (by rfl) (by rfl)) pe_int) (@pe_op _ _ _ _ _ _ _ _ op_mod (@pe_def _ _ _ _ _ _ _ _ _ _ _ _ D__law_at (hr.mono (by decide)) passF (@pa_c _ _ _ _ _ (pv 0) (@pa_c _ _ _ _ _ pe_int pa_nil (by rfl)) (by rfl)) (by rfl) (by decide) (by rfl) (by rfl)) pe_int)) (@pa_c _ _ _ _ _ (pv 1) (@pa_c _ _ _ _ _ pe_int pa_nil (by rfl)) (by rfl)) (by rfl)) (by rfl) (by decide) (by rfl) (by rfl)) (by rfl) (by first | exact .inl rfl | exact .inr rfl | assumption)) (@pss_cut _ _ _ _ _ (@ps_set _ _ (6) _ _ _ _ sc_law.nd (by exact rfl) (Or.inl rfl) (@pe_op _ _ _ _ _ _ _ _ op_mod (@pe_def _ _ _ _ _ _ _ _ _ _ _ _ D__law_at (hr.mono (by decide)) passF (@pa_c _ _ _ _ _ (pv 0) (@pa_c _ _ _ _ _ pe_int pa_nil (by rfl)) (by rfl)) (by rfl) (by decide) (by rfl) (by rfl)) (@pe_callB _ _ _ _ _ _ _ _ _ (call_len_seqK K) (by exact rfl) T.n_len PyProof.Rows.Boot.«len» (@pa_c _ _ _ _ _ (pv 1) pa_nil (by rfl)) (by decide) (by decide) (by rfl) (by rfl))) (by rfl) (by first | exact .inl rfl | exact .inr rfl | assumption)) (@pss_cut _ _ _ _ _ (@ps_set _ _ (7) _ _ _ _ sc_law.nd (by exact rfl) (Or.inl rfl) (@pe_slice _ _ _ _ _ _ _ _ _ _ (sl_listK K) (@pe_op _ _ _ _ _ _ _ _ op_cat (@pe_slice _ _ _ _ _ _ _ _ _ _ (sl_listK K) (pv 1) (@po_some _ _ _ (pv 6)) po_none) (@pe_slice _ _ _ _ _ _ _ _ _ _ (sl_listK K) (pv 1) po_none (@po_some _ _ _ (pv 6)))) po_none (@po_some _ _ _ (@pe_op _ _ _ _ _ _ _ _ op_add pe_int (@pe_op _ _ _ _ _ _ _ _ op_mod (@pe_def _ _ _ _ _ _ _ _ _ _ _ _ D__law_at (hr.mono (by decide)) passF (@pa_c _ _ _ _ _ (pv 0) (@pa_c _ _ _ _ _ pe_int pa_nil (by rfl)) (by rfl)) (by rfl) (by decide) (by rfl) (by rfl)) pe_int)))) (by rfl) (by first | exact .inl rfl | exact .inr rfl | assumption)) (@pss_cut _ _ _ _ _ (@ps_set _ _ (8) _ _ _ _ sc_law.nd (by exact rfl) (Or.inl rfl) (@pe_op _ _ _ _ _ _ _ _ op_add pe_int (@pe_op _ _ _ _ _ _ _ _ op_mod (@pe_def _ _ _ _ _ _ _ _ _ _ _ _ D__law_at (hr.mono (by decide)) passF (@pa_c _ _ _ _ _ (pv 0) (@pa_c _ _ _ _ _ pe_int pa_nil (by rfl)) (by rfl)) (by rfl) (by decide) (by rfl) (by rfl)) pe_int)) (by rfl) (by first | exact .inl rfl | exact .inr rfl | assumption)) (@pss_cut _ _ _ _ _ (@ps_if _ _ _ _ _ _ _ _ (@PW.pt _ _ _ (@pw_or _ _ _ _ _ _ _ (@pt_cmpR _ _ _ _ _ _ _ _ op_eq (@pe_op _ _ _ _ _ _ _ _ op_mod (@pe_def _ _ _ _ _ _ _ _ _ _ _ _ D__law_at (hr.mono (by decide)) passF (@pa_c _ _ _ _ _ (pv 0) (@pa_c _ _ _ _ _ pe_int pa_nil (by rfl)) (by rfl)) (by rfl) (by decide) (by rfl) (by rfl)) pe_int) pe_int (nomark _)) (@pw_or1 _ _ _ _ (@pt_cmpR _ _ _ _ _ _ _ _ op_eq (@pe_op _ _ _ _ _ _ _ _ op_mod (@pe_def _ _ _ _ _ _ _ _ _ _ _ _ D__law_at (hr.mono (by decide)) passF (@pa_c _ _ _ _ _ (pv 0) (@pa_c _ _ _ _ _ pe_int pa_nil (by rfl)) (by rfl)) (by rfl) (by decide) (by rfl) (by rfl)) pe_int) pe_int (nomark _))))) (@pss_one _ _ _ (@ps_set _ _ (8) _ _ _ _ sc_law.nd (by exact rfl) (Or.inl rfl) (@pe_op _ _ _ _ _ _ _ _ op_sub pe_int (@pe_op _ _ _ _ _ _ _ _ op_mod (@pe_def _ _ _ _ _ _ _ _ _ _ _ _ D__law_at (hr.mono (by decide)) passF (@pa_c _ _ _ _ _ (pv 0) (@pa_c _ _ _ _ _ pe_int pa_nil (by rfl)) (by rfl)) (by rfl) (by decide) (by rfl) (by rfl)) pe_int)) (by rfl) (by first | exact .inl rfl | exact .inr rfl | assumption))) pss_nil) (@pss_cut _ _ _ _ _ (@ps_set _ _ (9) _ _ _ _ sc_law.nd (by exact rfl) (Or.inl rfl) (@pe_def _ _ _ _ _ _ _ _ _ _ _ _ D__law_stretches (hr.mono (by decide)) passF (@pa_c _ _ _ _ _ (pv 3) (@pa_c _ _ _ _ _ (pv 7) (@pa_c _ _ _ _ _ (pv 8) (@pa_c _ _ _ _ _ (pv 5) pa_nil (by rfl)) (by rfl)) (by rfl)) (by rfl)) (by rfl) (by decide) (by rfl) (by rfl)) (by rfl) (by first | exact .inl rfl | exact .inr rfl | assumption)) (@pss_cut _ _ _ _ _ (@ps_set _ _ (10) _ _ _ _ sc_law.nd (by exact rfl) (Or.inl rfl) (@pe_callTy _ _ _ _ _ _ _ _ _ (call_list_ofK K) (by exact rfl) T.n_list PyProof.Rows.Boot.«list» (@pa_c _ _ _ _ _ (pv 3) pa_nil (by rfl)) (by decide) (by decide) (by rfl) (by rfl)) (by rfl) (by first | exact .inl rfl | exact .inr rfl | assumption)) (@pss_cut _ _ _ _ _ (@ps_set _ _ (11) _ _ _ _ sc_law.nd (by exact rfl) (Or.inl rfl) (@pe_callTy _ _ _ _ _ _ _ _ _ (call_list_ofK K) (by exact rfl) T.n_list PyProof.Rows.Boot.«list» (@pa_c _ _ _ _ _ (pv 7) pa_nil (by rfl)) (by decide) (by decide) (by rfl) (by rfl)) (by rfl) (by first | exact .inl rfl | exact .inr rfl | assumption)) (@pss_cut _ _ _ _ _ (@ps_set _ _ (12) _ _ _ _ sc_law.nd (by exact rfl) (Or.inl rfl) (@pe_newD _ _ _ _ _ _ _ _ _ _ _ _ _ _ N6_Terms (hr.mono (by decide)) hX.pass (@pa_c _ _ _ _ _ pe_int (@pa_c _ _ _ _ _ pe_int (@pa_c _ _ _ _ _ pe_int (@pa_c _ _ _ _ _ pe_int (@pa_c _ _ _ _ _ pe_int (@pa_c _ _ _ _ _ (@pe_callTy _ _ _ _ _ _ _ _ _ (call_list_ofK K) (by exact rfl) T.n_list PyProof.Rows.Boot.«list» (@pa_c _ _ _ _ _ (pv 5) pa_nil (by rfl)) (by decide) (by decide) (by rfl) (by rfl)) pa_nil (by rfl)) (by rfl)) (by rfl)) (by rfl)) (by rfl)) (by rfl)) (by rfl) (by decide) (by rfl) (by rfl)) (by rfl) (by first | exact .inl rfl | exact .inr rfl | assumption)) (@pss_cut _ _ _ _ _ (@ps_set _ _ (13) _ _ _ _ sc_law.nd (by exact rfl) (Or.inl rfl) (@pe_def _ _ _ _ _ _ _ _ _ _ _ _ D_near_stretches (hr.mono (by decide)) passF (@pa_c _ _ _ _ _ (pv 10) (@pa_c _ _ _ _ _ (pv 11) (@pa_c _ _ _ _ _ (pv 8) (@pa_c _ _ _ _ _ (pv 12) pa_nil (by rfl)) (by rfl)) (by rfl)) (by rfl)) (by rfl) (by decide) (by rfl) (by rfl)) (by rfl) (by first | exact .inl rfl | exact .inr rfl | assumption)) (@pss_cut _ _ _ _ _ (@ps_if _ _ _ _ _ _ _ _ (@PW.pt _ _ _ (@pw_or _ _ _ _ _ _ _ (@pt_not _ _ _ _ (@pt_val _ _ _ (@pe_def _ _ _ _ _ _ _ _ _ _ _ _ D__law_texts (hr.mono (by decide)) passF (@pa_c _ _ _ _ _ (pv 10) (@pa_c _ _ _ _ _ (pv 3) pa_nil (by rfl)) (by rfl)) (by rfl) (by decide) (by rfl) (by rfl)) (by intro _; rfl))) (@pw_or1 _ _ _ _ (@pt_not _ _ _ _ (@pt_val _ _ _ (@pe_def _ _ _ _ _ _ _ _ _ _ _ _ D__law_texts (hr.mono (by decide)) passF (@pa_c _ _ _ _ _ (pv 11) (@pa_c _ _ _ _ _ (pv 7) pa_nil (by rfl)) (by rfl)) (by rfl) (by decide) (by rfl) (by rfl)) (by intro _; rfl)))))) (@pss_one _ _ _ (@ps_ret _ _ _ _ pe_bl)) pss_nil) (@pss_cut _ _ _ _ _ (@ps_if _ _ _ _ _ _ _ _ (@PW.pt _ _ _ (@pw_or _ _ _ _ _ _ _ (@pt_not _ _ _ _ (@pt_val _ _ _ (@pe_def _ _ _ _ _ _ _ _ _ _ _ _ D__law_pairs (hr.mono (by decide)) passF (@pa_c _ _ _ _ _ (pv 13) pa_nil (by rfl)) (by rfl) (by decide) (by rfl) (by rfl)) (by intro _; rfl))) (@pw_or1 _ _ _ _ (@pt_cmpR _ _ _ _ _ _ _ _ op_ne (@pe_callB _ _ _ _ _ _ _ _ _ (call_len_seqK K) (by exact rfl) T.n_len PyProof.Rows.Boot.«len» (@pa_c _ _ _ _ _ (pv 13) pa_nil (by rfl)) (by decide) (by decide) (by rfl) (by rfl)) (@pe_callB _ _ _ _ _ _ _ _ _ (call_len_seqK K) (by exact rfl) T.n_len PyProof.Rows.Boot.«len» (@pa_c _ _ _ _ _ (pv 9) pa_nil (by rfl)) (by decide) (by decide) (by rfl) (by rfl)) (nomark _))))) (@pss_one _ _ _ (@ps_ret _ _ _ _ pe_bl)) pss_nil) (@pss_cut _ _ _ _ _ (@ps_expr _ _ _ _ (@pe_bmK _ K _ _ _ _ _ _ _ _ _ _ _ PySem.F.plainAttrs_list PySem.F.slot_list_append PySem.F.type_list_append mt_append (pv 13) (@pa_c _ _ _ _ _ (@pe_tup _ _ _ _ _ (@pa_c _ _ _ _ _ pe_int (@pa_c _ _ _ _ _ pe_int pa_nil (by rfl)) (by rfl))) pa_nil (by rfl)) (by rfl) (by rfl) (by rfl) (by rfl) (by rfl) (by rfl)) (by rfl)) (@pss_cut _ _ _ _ _ (@ps_set _ _ (14) _ _ _ _ sc_law.nd (by exact rfl) (Or.inl rfl) (@pe_def _ _ _ _ _ _ _ _ _ _ _ _ D_near_stretches (hr.mono (by decide)) passF (@pa_c _ _ _ _ _ (@pe_callTy _ _ _ _ _ _ _ _ _ (call_list_ofK K) (by exact rfl) T.n_list PyProof.Rows.Boot.«list» (@pa_c _ _ _ _ _ (pv 3) pa_nil (by rfl)) (by decide) (by decide) (by rfl) (by rfl)) (@pa_c _ _ _ _ _ (@pe_callTy _ _ _ _ _ _ _ _ _ (call_list_ofK K) (by exact rfl) T.n_list PyProof.Rows.Boot.«list» (@pa_c _ _ _ _ _ (pv 7) pa_nil (by rfl)) (by decide) (by decide) (by rfl) (by rfl)) (@pa_c _ _ _ _ _ (pv 8) (@pa_c _ _ _ _ _ (pv 12) pa_nil (by rfl)) (by rfl)) (by rfl)) (by rfl)) (by rfl) (by decide) (by rfl) (by rfl)) (by rfl) (by first | exact .inl rfl | exact .inr rfl | assumption)) (@pss_one _ _ _ (@ps_ret _ _ _ _ (@pe_and _ _ _ _ _ _ _ (@pe_def _ _ _ _ _ _ _ _ _ _ _ _ D__law_pairs (hr.mono (by decide)) passF (@pa_c _ _ _ _ _ (pv 14) pa_nil (by rfl)) (by rfl) (by decide) (by rfl) (by rfl)) (@pe_and _ _ _ _ _ _ _ (@pe_cmpR _ _ _ _ _ _ _ _ (op_eq_listTK K hu) (pv 14) (pv 9) (nomark _)) (@pe_one _ _ _ _ _ (@pe_cmpR _ _ _ _ _ _ _ _ (op_eq_listTK K hu) (@pe_slice _ _ _ _ _ _ _ _ _ _ (sl_listK K) (pv 13) po_none (@po_some _ _ _ (@pe_callB _ _ _ _ _ _ _ _ _ (call_len_seqK K) (by exact rfl) T.n_len PyProof.Rows.Boot.«len» (@pa_c _ _ _ _ _ (pv 9) pa_nil (by rfl)) (by decide) (by decide) (by rfl) (by rfl)))) (pv 9) (nomark _))))))))))))))))))))))))), ?_⟩
    -- the words
    refine ⟨fun σ H1 => ∃ (b : Addr) (zs : List Str), σ = [some (.ref a), some (.ref b), none, none, none, none, none, none, none, none, none, none, none, none, none] ∧ H1 b = some (.lst (zs.map V.str)) ∧ (1 ≤ zs.length ∧ zs.length ≤ 8) ∧ (∀ z ∈ zs, isW z = true) ∧ zs.Nodup ∧ Same H H1, ?_, ?_⟩
    · exact ⟨_, rfl, a, ns, 0, rfl, hS, by decide, _, rfl, a, ns, 1, rfl, hS, by decide, _, rfl, a, ns, 2, rfl, hS, by decide, _, _, rfl, rfl, c8, _, _, rfl, rfl, _, _, _, rfl, by omega, by omega, fun H' b zs s1 hb hb1 hz hw hn => ⟨b, zs, rfl, hb1, by omega, hw, hn, s1⟩⟩
    rintro σ H1 ⟨b, zs, rfl, hb1, hz, hw, hn, s1⟩
    have hS1 := s1.seq hS
    -- how many
    refine ⟨fun σ H2 => ∃ m : Int, (12 ≤ m ∧ m ≤ 40) ∧ σ = [some (.ref a), some (.ref b), some (.int m), none, none, none, none, none, none, none, none, none, none, none, none] ∧ Same H1 H2, ?_, ?_⟩
    · obtain ⟨m, hm1, hm⟩ := int_at [12, 12, 40, 40] (i := cell ns 3 % 4) (by omega) (show cell ns 3 % 4 < 4 by omega)
      have hm2 : 12 ≤ m ∧ m ≤ 40 := by simp at hm1; omega
      exact ⟨le_line (by simp), fun p hp => ⟨_, rfl, a, ns, 3, rfl, (Same.upd hp).seq hS1, by decide, _, _, rfl, rfl, c4, p, _, _, _, rfl, rfl, .of upd_same, hm, m, hm2, rfl, Same.upd hp⟩⟩
    rintro σ H2 ⟨m, hm, rfl, s2⟩
    -- the book
    refine ⟨fun σ H3 => ∃ (l : Addr) (ws : List Str), σ = [some (.ref a), some (.ref b), some (.int m), some (.ref l), none, none, none, none, none, none, none, none, none, none, none] ∧ H1 l = none ∧ H3 l = some (.lst (ws.map V.str)) ∧ ws.length ≤ 40 ∧ Same H1 H3, ?_, ?_⟩
    · have h0 : 0 ≤ cell ns 5 % (m + 1) := Int.emod_nonneg _ (by omega)
      have h1 : cell ns 5 % (m + 1) < m + 1 := Int.emod_lt_of_pos _ (by omega)
      exact ⟨_, rfl, _, rfl, a, ns, 4, rfl, s2.seq hS1, by decide, _, rfl, _, rfl, a, ns, 5, rfl, s2.seq hS1, by decide, _, rfl, _, _, rfl, rfl, _, _, rfl, rfl, (by omega : 0 < m + 1), _, _, rfl, rfl, _, rfl, a, b, ns, zs, _, _, _, rfl, s2.seq hS1, s2 _ _ hb1, ⟨hz.1, by omega⟩, by decide, by omega, by omega, fun H' l ws s3 hl hl3 hwl _ => ⟨l, ws, rfl, s2.free hl, hl3, by omega, s2.trans s3⟩⟩
    clear s2 H2
    rintro σ H2 ⟨l0, ws0, rfl, hl0, hl2, hw0, s2⟩
    refine ⟨fun σ H3 => ∃ (l : Addr) (ws : List Str) (u : Option V), σ = [some (.ref a), some (.ref b), some (.int m), some (.ref l), u, none, none, none, none, none, none, none, none, none, none] ∧ H1 l = none ∧ H3 l = some (.lst (ws.map V.str)) ∧ ws.length ≤ 40 ∧ Same H1 H3, ?_, ?_⟩
    · refine ⟨_, rfl, a, ns, 3, rfl, s2.seq hS1, by decide, _, _, rfl, rfl, c4, rfl, _, rfl, ?_⟩
      refine ite2 (fun _ => ?_) (fun _ => iteF ⟨l0, ws0, _, rfl, hl0, hl2, hw0, s2⟩)
      refine ⟨_, rfl, le_line (by simp), fun p hp => ⟨l0, p, _, rfl, rfl, .of (Same.upd hp _ _ hl2), .of upd_same, _, rfl, ?_⟩⟩
      have s3 : Same H1 (upd H2 p (.lst [])) := s2.trans (Same.upd hp)
      have hl3 := Same.upd (o := .lst []) hp _ _ hl2
      generalize upd H2 p (.lst []) = Ha at s3 hl3
      refine ite2 (fun hne => ?_) (fun _ => ⟨l0, ws0, _, rfl, hl0, hl3, hw0, s3⟩)
      have hne : ws0 ≠ [] := by simpa using hne
      have hpos : 0 < ws0.length := List.length_pos_iff.mpr hne
      refine ⟨fun σ H3 => ∃ (l : Addr) (ws : List Str), σ = [some (.ref a), some (.ref b), some (.int m), some (.ref l), none, none, none, none, none, none, none, none, none, none, none] ∧ H1 l = none ∧ H3 l = some (.lst (ws.map V.str)) ∧ (0 < ws.length ∧ ws.length ≤ 40) ∧ Same H1 H3, ?_, ?_⟩
      · obtain ⟨z0, _, hz0⟩ := str_at zs (i := 0) (by omega) (by omega)
        refine ⟨_, rfl, b, _, _, _, rfl, rfl, .of (s3 _ _ hb1), hz0, le_line (by simp), fun p1 hp1 => ⟨_, rfl, l0, _, rfl, .inl (.of (Same.upd hp1 _ _ hl3)), p1, _, _, rfl, rfl, upd_same, by omega, by rw [List.length_map]; omega, le_line (by rw [List.length_map]; simp; omega), fun p2 hp2 => ⟨p2, List.replicate ws0.length z0, rfl, s3.free ((Same.upd hp1).free hp2), ?_, by simp; omega, (s3.trans (Same.upd hp1)).trans (Same.upd hp2)⟩⟩⟩
        rw [upd_same, List.length_map, Int.toNat_natCast]
        congr 2
        rw [List.map_replicate]
        clear hl3 hl2 hpos hne hw0 hp2 hp1
        induction ws0.length with
        | zero => rfl
        | succ k ih => rw [List.replicate_succ, List.replicate_succ, List.flatten_cons, ih]; rfl
      rintro σ H2 ⟨l, ws, rfl, hl, hl2, hwl, s2⟩
      have eb : (zs.map V.str).length = zs.length := List.length_map ..
      refine ⟨_, rfl, b, _, rfl, .inl (.of (s2 _ _ hb1)), ((zs.map V.str).length : Int), rfl, by omega, by omega, ?_⟩
      refine for_range (fun i σ H3 => ∃ (ws : List Str) (u : Option V), σ = [some (.ref a), some (.ref b), some (.int m), some (.ref l), u, none, none, none, none, none, none, none, none, none, none] ∧ H3 l = some (.lst (ws.map V.str)) ∧ (0 < ws.length ∧ ws.length ≤ 40) ∧ Same H1 H3) ⟨ws, _, rfl, hl2, hwl, s2⟩ ?_ ?_
      · clear hwl hl2 ws s2 H2
        rintro i σ H2 hi ⟨ws, u, rfl, hl2, hwl, s2⟩
        have hi : i < zs.length := by omega
        obtain ⟨z, _, hz1⟩ := str_at zs (i := 0 + (i : Int)) (by omega) (by omega)
        have ew : (ws.map V.str).length = ws.length := List.length_map ..
        have h0 : 0 ≤ cell ns (11 + (0 + (i : Int))) % ((ws.map V.str).length : Int) := Int.emod_nonneg _ (by omega)
        have h1 : cell ns (11 + (0 + (i : Int))) % ((ws.map V.str).length : Int) < ((ws.map V.str).length : Int) := Int.emod_lt_of_pos _ (by omega)
        obtain ⟨j, hj⟩ := Int.eq_ofNat_of_zero_le h0
        refine ⟨_, rfl, _, rfl, b, _, _, _, rfl, rfl, .of (s2 _ _ hb1), hz1, _, rfl, _, rfl, _, rfl, _, _, rfl, rfl, a, ns, _, rfl, s2.seq hS1, by omega, _, rfl, l, _, rfl, .inl (.of hl2), _, _, rfl, rfl, by omega, l, _, _, j, rfl, rfl, hl2, by rw [hj]; exact ixN_nat (by omega), ws.set j z, _, rfl, ?_, by rw [List.length_set]; exact hwl, s2.upd2 hl⟩
        rw [upd_same, List.map_set]
      · rintro σ H3 ⟨ws, u, rfl, hl3, hwl3, s3⟩
        exact ⟨l, ws, u, rfl, hl, hl3, hwl3.2, s3⟩
    clear hw0 hl2 hl0 ws0 l0 s2 H2
    rintro σ H2 ⟨l, ws, u, rfl, hl, hl2, hwl, s2⟩
    -- the near forms
    refine ⟨fun σ H3 => ∃ (e : Addr) (xs : List V) (fs : List Form), σ = [some (.ref a), some (.ref b), some (.int m), some (.ref l), u, some (.ref e), none, none, none, none, none, none, none, none, none] ∧ H3 e = some (.lst xs) ∧ Trips H3 xs fs ∧ goodNear fs = true ∧ Same H2 H3, ?_, ?_⟩
    · exact ⟨_, rfl, a, ns, 6, rfl, s2.seq hS1, by decide, _, _, rfl, rfl, ⟨by decide, by decide⟩, _, rfl, a, ns, 6, rfl, s2.seq hS1, by decide, _, _, rfl, rfl, c2, _, _, rfl, rfl, .inr ⟨by omega, by omega⟩, _, rfl, _, 5, b, zs, rfl, s2 _ _ hb1, hz.2, hw, hn, by decide, by decide, fun H3 e xs fs s3 he he3 T3 g3 => ⟨e, xs, fs, rfl, he3, T3, g3, s3⟩⟩
    rintro σ H3 ⟨e, xs, fs, rfl, he3, T3, g3, s3⟩
    have hl3 := s3 _ _ hl2
    have s3' : Same H1 H3 := s2.trans s3
    clear hl2 s2 s3 H2
    -- the spot
    refine ⟨fun σ H4 => ∃ sp : Int, (0 ≤ sp ∧ sp < (zs.length : Int)) ∧ σ = [some (.ref a), some (.ref b), some (.int m), some (.ref l), u, some (.ref e), some (.int sp), none, none, none, none, none, none, none, none] ∧ H4 = H3, ?_, ?_⟩
    · have eb : (zs.map V.str).length = zs.length := List.length_map ..
      have h0 : 0 ≤ cell ns 7 % ((zs.map V.str).length : Int) := Int.emod_nonneg _ (by omega)
      have h1 : cell ns 7 % ((zs.map V.str).length : Int) < ((zs.map V.str).length : Int) := Int.emod_lt_of_pos _ (by omega)
      exact ⟨_, rfl, a, ns, 7, rfl, s3'.seq hS1, by decide, _, rfl, b, _, rfl, .inl (.of (s3' _ _ hb1)), _, _, rfl, rfl, by omega, _, ⟨h0, by omega⟩, rfl, rfl⟩
    rintro σ H4 ⟨sp, hsp, rfl, rfl⟩
    -- the searched words
    refine ⟨fun σ H5 => ∃ (w : Addr) (ts : List Str), σ = [some (.ref a), some (.ref b), some (.int m), some (.ref l), u, some (.ref e), some (.int sp), some (.ref w), none, none, none, none, none, none, none] ∧ H5 w = some (.lst (ts.map V.str)) ∧ (0 < ts.length ∧ ts.length ≤ 8) ∧ Same H4 H5, ?_, ?_⟩
    · have eb : (zs.map V.str).length = zs.length := List.length_map ..
      have hb4 := s3' _ _ hb1
      refine ⟨_, rfl, _, rfl, _, rfl, b, _, rfl, .of hb4, fun p1 hp1 => ⟨_, rfl, _, rfl, _, rfl, b, _, rfl, .of (Same.upd hp1 _ _ hb4), fun p2 hp2 => ?_⟩⟩
      rw [cut_from (by omega) (by omega)] at hp2 ⊢
      rw [cut_to (by omega) (by omega)]
      have n12 : p1 ≠ p2 := ne_of_none upd_same hp2
      refine ⟨p1, p2, _, _, rfl, rfl, by rw [upd_ne n12]; exact upd_same, upd_same, le_line (by simp; omega), fun p3 hp3 => ?_⟩
      have h8 : 0 ≤ cell ns 8 % 6 ∧ cell ns 8 % 6 < 6 := by omega
      have s5 : Same H4 (upd (upd (upd H4 p1 (.lst ((zs.map V.str).drop sp.toNat))) p2 (.lst ((zs.map V.str).take sp.toNat))) p3 (.lst ((zs.map V.str).drop sp.toNat ++ (zs.map V.str).take sp.toNat))) := ((Same.upd hp1).trans (Same.upd hp2)).trans (Same.upd hp3)
      refine ⟨_, rfl, a, ns, 8, rfl, s5.seq (s3'.seq hS1), by decide, _, _, rfl, rfl, c6, _, _, rfl, rfl, _, rfl, p3, _, rfl, .of upd_same, fun p4 hp4 => ⟨p4, (zs.drop sp.toNat ++ zs.take sp.toNat).take (1 + cell ns 8 % 6).toNat, rfl, ?_, ?_, s5.trans (Same.upd hp4)⟩⟩
      · rw [upd_same, ← List.map_drop, ← List.map_take, ← List.map_append]
        congr 2
        rw [cut_head (by omega), List.map_take]
      · rw [List.length_take, List.length_append, List.length_drop, List.length_take]
        omega
    rintro σ H5 ⟨w, ts, rfl, hw5, hts, s5⟩
    have s5' : Same H1 H5 := s3'.trans s5
    have hl5 := s5 _ _ hl3
    have he5 := s5 _ _ he3
    have T5 := T3.same s5
    clear hl3 he3 T3 s3' s5 H4
    -- the span
    refine ⟨fun σ H6 => ∃ n : Nat, (1 ≤ n ∧ n ≤ 40) ∧ σ = [some (.ref a), some (.ref b), some (.int m), some (.ref l), u, some (.ref e), some (.int sp), some (.ref w), some (.int n), none, none, none, none, none, none] ∧ H6 = H5, ?_, ?_⟩
    · obtain ⟨n, hn1⟩ := Int.eq_ofNat_of_zero_le (show 0 ≤ 1 + cell ns 9 % 6 by omega)
      exact ⟨_, rfl, a, ns, 9, rfl, s5'.seq hS1, by decide, _, _, rfl, rfl, c6, _, _, rfl, rfl, n, by omega, by rw [hn1]; rfl, rfl⟩
    rintro σ H6 ⟨n0, hn0, rfl, rfl⟩
    refine ⟨fun σ H7 => ∃ n : Nat, (1 ≤ n ∧ n ≤ 40) ∧ σ = [some (.ref a), some (.ref b), some (.int m), some (.ref l), u, some (.ref e), some (.int sp), some (.ref w), some (.int n), none, none, none, none, none, none] ∧ H7 = H6, ?_, ?_⟩
    · obtain ⟨n, hn1⟩ := Int.eq_ofNat_of_zero_le (show 0 ≤ 40 - cell ns 9 % 40 by omega)
      have yes : ∃ n' : Nat, (1 ≤ n' ∧ n' ≤ 40) ∧ ([some (.ref a), some (.ref b), some (.int m), some (.ref l), u, some (.ref e), some (.int sp), some (.ref w), some (.int (40 - cell ns 9 % 40)), none, none, none, none, none, none] : St) = [some (.ref a), some (.ref b), some (.int m), some (.ref l), u, some (.ref e), some (.int sp), some (.ref w), some (.int n'), none, none, none, none, none, none] ∧ H6 = H6 := ⟨n, by omega, by rw [hn1], rfl⟩
      refine ⟨_, rfl, a, ns, 10, rfl, s5'.seq hS1, by decide, _, _, rfl, rfl, c2, rfl, _, rfl, ?_⟩
      refine ite2 (fun _ => iteT ⟨_, rfl, a, ns, 9, rfl, s5'.seq hS1, by decide, _, _, rfl, rfl, c40, _, _, rfl, rfl, yes⟩) (fun _ => ?_)
      refine ⟨_, rfl, a, ns, 3, rfl, s5'.seq hS1, by decide, _, _, rfl, rfl, c4, rfl, _, rfl, ?_⟩
      refine ite2 (fun _ => ⟨_, rfl, a, ns, 9, rfl, s5'.seq hS1, by decide, _, _, rfl, rfl, c40, _, _, rfl, rfl, yes⟩) (fun _ => ⟨n0, hn0, rfl, rfl⟩)
    clear hn0 n0
    rintro σ H7 ⟨n, hn1, rfl, rfl⟩
    have hfl : fs.length ≤ 60 := by have := (good_short g3).1; simp only [goodNear, Bool.and_eq_true, decide_eq_true_eq] at g3; omega
    -- what is due
    refine ⟨fun σ H8 => ∃ (d : Addr) (vs : List V), σ = [some (.ref a), some (.ref b), some (.int m), some (.ref l), u, some (.ref e), some (.int sp), some (.ref w), some (.int n), some (.ref d), none, none, none, none, none] ∧ H8 d = some (.lst vs) ∧ Prs H8 vs (NS.due ⟨ws, ts, fs, n⟩ ws.length) ∧ Same H7 H8, ?_, ?_⟩
    · exact ⟨_, rfl, _, rfl, _, rfl, _, rfl, l, w, e, ⟨ws, ts, fs, n⟩, xs, rfl, hl5, hw5, he5, T5, (by show ts.length ≤ 100; omega), (by show ws.length ≤ 100; omega), (by show fs.length ≤ 100; omega), (by show n ≤ 1000; omega), fun H8 d vs s8 hd hd8 P8 => ⟨d, vs, rfl, hd8, P8, s8⟩⟩
    rintro σ H8 ⟨d, vs, rfl, hd8, P8, s8⟩
    have hl8 := s8 _ _ hl5
    have hw8 := s8 _ _ hw5
    have he8 := s8 _ _ he5
    have T8 := T5.same s8
    have er := NS.right ⟨ws, ts, fs, n⟩ hts.1
    have er : NS.told ⟨ws, ts, fs, n⟩ ws.length = NS.due ⟨ws, ts, fs, n⟩ ws.length := er
    clear hl5 hw5 he5 T5 s8 s5' H7
    refine ⟨fun σ H9 => ∃ h1, σ = [some (.ref a), some (.ref b), some (.int m), some (.ref l), u, some (.ref e), some (.int sp), some (.ref w), some (.int n), some (.ref d), some (.ref h1), none, none, none, none] ∧ H9 h1 = some (.lst (ws.map V.str)) ∧ Same H8 H9, ?_, ?_⟩
    · exact ⟨_, rfl, l, _, rfl, .inl (.of hl8), fun p hp => ⟨p, rfl, upd_same, Same.upd hp⟩⟩
    rintro σ H9 ⟨h1, rfl, hh1, s9⟩
    refine ⟨fun σ H10 => ∃ h2, σ = [some (.ref a), some (.ref b), some (.int m), some (.ref l), u, some (.ref e), some (.int sp), some (.ref w), some (.int n), some (.ref d), some (.ref h1), some (.ref h2), none, none, none] ∧ H10 h2 = some (.lst (ts.map V.str)) ∧ Same H9 H10, ?_, ?_⟩
    · exact ⟨_, rfl, w, _, rfl, .inl (.of (s9 _ _ hw8)), fun p hp => ⟨p, rfl, upd_same, Same.upd hp⟩⟩
    rintro σ H10 ⟨h2, rfl, hh2, s10⟩
    have sA : Same H8 H10 := s9.trans s10
    -- the terms
    refine ⟨fun σ H11 => ∃ t dx l2 dd, σ = [some (.ref a), some (.ref b), some (.int m), some (.ref l), u, some (.ref e), some (.int sp), some (.ref w), some (.int n), some (.ref d), some (.ref h1), some (.ref h2), some (.ref t), none, none] ∧ TermsAt H11 C_Terms t ⟨5, 1, 1, 1, 50⟩ fs dx l2 dd xs ∧ Same H10 H11, ?_, ?_⟩
    · refine ⟨_, rfl, e, xs, rfl, .inl (.of (sA _ _ he8)), fun p hp => ?_⟩
      have sB : Same H10 (upd H10 p (.lst xs)) := Same.upd hp
      have hpB : upd H10 p (.lst xs) p = some (.lst xs) := upd_same
      generalize upd H10 p (.lst xs) = Hb at sB hpB
      intro x dx hx hdx hne
      have s5 : Same Hb (upd (upd Hb dx (.own x)) x (.ins C_Terms dx [])) := (Same.upd hdx).upd2 hx
      have TB := (T8.same (sA.trans sB)).same s5
      refine ⟨x, dx, ⟨5, 1, 1, 1, 50⟩, .ref p, xs, fs, rfl, upd_same, by rw [upd_ne hne]; exact upd_same, .inr ⟨p, rfl, s5 _ _ hpB, TB⟩, good_short g3, ?_⟩
      rw [if_pos (by decide), if_pos g3]
      intro H6 l2 dd sb T6 hl6 hd6
      refine ⟨rfl, x, dx, l2, dd, rfl, T6, ?_⟩
      exact sB.trans (SameBut.of_new hx hdx sb)
    rintro σ H11 ⟨t, dx, l2, dd, rfl, T11, s11⟩
    have sB : Same H8 H11 := sA.trans s11
    have hh1' := s11 _ _ (s10 _ _ hh1)
    have hh2' := s11 _ _ hh2
    have hl11 := sB _ _ hl8
    have hw11 := sB _ _ hw8
    have hd11 := sB _ _ hd8
    have P11 := P8.same sB
    clear hh1 hh2 hl8 hw8 hd8 he8 T8 P8 s9 s10 s11 sA sB H8 H9 H10
    -- what is told
    refine ⟨fun σ H12 => ∃ (r : Addr) (us : List V), σ = [some (.ref a), some (.ref b), some (.int m), some (.ref l), u, some (.ref e), some (.int sp), some (.ref w), some (.int n), some (.ref d), some (.ref h1), some (.ref h2), some (.ref t), some (.ref r), none] ∧ H11 r = none ∧ H12 r = some (.lst us) ∧ Prs H12 us (NS.due ⟨ws, ts, fs, n⟩ ws.length) ∧ Same H11 H12, ?_, ?_⟩
    · refine ⟨_, rfl, _, rfl, _, rfl, _, rfl, h1, h2, t, ⟨ws, ts, fs, n⟩, _, dx, l2, dd, xs, rfl, hh1', hh2', hts.1, (by show ts.length ≤ 1000; omega), (by show ws.length ≤ 1000; omega), T11, fun H12 r us s12 hr hr12 P12 => ⟨r, us, rfl, hr, hr12, ?_, s12⟩⟩
      rw [← er]; exact P12
    rintro σ H12 ⟨r, us, rfl, hr, hr12, P12, s12⟩
    refine ⟨fun σ H13 => σ = [some (.ref a), some (.ref b), some (.int m), some (.ref l), u, some (.ref e), some (.int sp), some (.ref w), some (.int n), some (.ref d), some (.ref h1), some (.ref h2), some (.ref t), some (.ref r), none] ∧ H13 = H12, ?_, ?_⟩
    · refine ⟨_, rfl, _, rfl, h1, l, ws, rfl, s12 _ _ hh1', s12 _ _ hl11, by omega, _, rfl, ?_⟩
      refine ite2 (fun hh => absurd hh (by simp)) (fun _ => ?_)
      refine ⟨_, rfl, _, rfl, h2, w, ts, rfl, s12 _ _ hh2', s12 _ _ hw11, by omega, _, rfl, ?_⟩
      exact ite2 (fun hh => absurd hh (by simp)) (fun _ => ⟨rfl, rfl⟩)
    rintro σ H13 ⟨rfl, rfl⟩
    have ul : us.length = vs.length := by rw [P12.1, P11.1]
    refine ⟨fun σ H14 => σ = [some (.ref a), some (.ref b), some (.int m), some (.ref l), u, some (.ref e), some (.int sp), some (.ref w), some (.int n), some (.ref d), some (.ref h1), some (.ref h2), some (.ref t), some (.ref r), none] ∧ H14 = H13, ?_, ?_⟩
    · refine ⟨_, rfl, r, us, _, rfl, hr12, P12, _, rfl, ?_⟩
      refine ite2 (fun hh => absurd hh (by simp)) (fun _ => ?_)
      refine ⟨_, rfl, r, _, rfl, .inl (.of hr12), _, rfl, d, _, rfl, .inl (.of (s12 _ _ hd11)), rfl, _, rfl, ?_⟩
      exact ite2 (fun hh => absurd hh (by simp [ul])) (fun _ => ⟨rfl, rfl⟩)
    rintro σ H14 ⟨rfl, rfl⟩
    have small : us.length ≤ 10000 := by
      rw [P12.1]
      have h1 := due_len ⟨ws, ts, fs, n⟩ ws.length
      have h2 : ws.length * ws.length ≤ 40 * 40 := Nat.mul_le_mul hwl hwl
      have h3 : ws.length * (NS.ws ⟨ws, ts, fs, n⟩).length = ws.length * ws.length := rfl
      omega
    refine ⟨fun σ H15 => σ = [some (.ref a), some (.ref b), some (.int m), some (.ref l), u, some (.ref e), some (.int sp), some (.ref w), some (.int n), some (.ref d), some (.ref h1), some (.ref h2), some (.ref t), some (.ref r), none] ∧ Same H11 H15 ∧ ∃ z, H15 r = some (.lst (us ++ [z])) ∧ Prs H15 us (NS.due ⟨ws, ts, fs, n⟩ ws.length), ?_, ?_⟩
    · refine ⟨_, rfl, .inl ⟨rfl, _, .of hr12⟩, le_line (by simp), fun t1 ht1 => ⟨r, us, _, rfl, rfl, Same.upd ht1 _ _ hr12, lt_line (by omega), rfl, (s12.trans (Same.upd ht1)).upd2 hr, _, upd_same, ?_⟩⟩
      exact (P12.same (Same.upd ht1)).tups (Tups.lst (Same.upd ht1 _ _ hr12))
    clear P12 hr12 s12 H14
    rintro σ H15 ⟨rfl, s15, z, hr15, P15⟩
    -- asked again
    refine ⟨fun σ H16 => ∃ (r2 : Addr) (us2 : List V), σ = [some (.ref a), some (.ref b), some (.int m), some (.ref l), u, some (.ref e), some (.int sp), some (.ref w), some (.int n), some (.ref d), some (.ref h1), some (.ref h2), some (.ref t), some (.ref r), some (.ref r2)] ∧ H16 r2 = some (.lst us2) ∧ Prs H16 us2 (NS.due ⟨ws, ts, fs, n⟩ ws.length) ∧ Same H15 H16, ?_, ?_⟩
    · refine ⟨_, rfl, l, _, rfl, .inl (.of (s15 _ _ hl11)), fun p1 hp1 => ⟨_, rfl, w, _, rfl, .inl (.of (Same.upd hp1 _ _ (s15 _ _ hw11))), fun p2 hp2 => ?_⟩⟩
      have n12 : p1 ≠ p2 := ne_of_none upd_same hp2
      have sC : Same H15 (upd (upd H15 p1 (.lst (ws.map V.str))) p2 (.lst (ts.map V.str))) := (Same.upd hp1).trans (Same.upd hp2)
      refine ⟨_, rfl, _, rfl, p1, p2, t, ⟨ws, ts, fs, n⟩, _, dx, l2, dd, xs, rfl, by rw [upd_ne n12]; exact upd_same, upd_same, hts.1, (by show ts.length ≤ 1000; omega), (by show ws.length ≤ 1000; omega), T11.same (s15.trans sC), fun H16 r2 us2 s16 _ hr16 P16 => ⟨r2, us2, rfl, hr16, ?_, sC.trans s16⟩⟩
      rw [← er]; exact P16
    rintro σ H16 ⟨r2, us2, rfl, hr16, P16, s16⟩
    have hd16 := s16 _ _ (s15 _ _ hd11)
    have Pd := P11.same (s15.trans s16)
    have eqv := eqLs_prV (NS.due ⟨ws, ts, fs, n⟩ ws.length)
    refine ⟨_, rfl, r2, us2, _, rfl, hr16, P16, _, rfl, ?_⟩
    refine iteT ?_
    refine ⟨_, rfl, _, rfl, r2, d, us2, vs, _, _, rfl, rfl, .of hr16, .of hd16, P16.tl, Pd.tl, _, rfl, ?_⟩
    rw [eqv]
    refine iteT ?_
    refine ⟨_, rfl, _, rfl, d, _, rfl, .inl (.of hd16), _, rfl, r, _, rfl, .of (s16 _ _ hr15), fun p hp => ?_⟩
    have ec : cutV (us ++ [z]) none (some ((vs.length : Nat) : Int)) = us := by
      rw [cut_to (by omega) (by simp; omega), Int.toNat_natCast, ← ul, List.take_left']
      rfl
    rw [ec]
    refine ⟨_, rfl, p, d, us, vs, _, _, rfl, rfl, .of upd_same, .of (Same.upd hp _ _ hd16), ((P15.same s16).same (Same.upd hp)).tl, (Pd.same (Same.upd hp)).tl, ?_⟩
    rw [eqv]
    exact q _
end
theorem all_mk {l : W.OpenLaw} {w : World} {K : W.Frag} {h : Heap} {mg : Str → Option Value} {fa : Addr} (X : K.In h) (G : h.Ns mainGlobals mg) (hfa : mg "law" = some (.ref fa))
    {C_Terms : Addr}
    {f_is_small_letter : Addr} {od_is_small_letter an_is_small_letter : Option Addr} {sl_is_small_letter : Array (Option Value)} {oc_is_small_letter kV_is_small_letter dc_is_small_letter pm_is_small_letter cd_is_small_letter ct_is_small_letter : Value}
    {f_is_word : Addr} {od_is_word an_is_word : Option Addr} {sl_is_word : Array (Option Value)} {oc_is_word kV_is_word dc_is_word pm_is_word cd_is_word ct_is_word : Value}
    {f_is_between : Addr} {od_is_between an_is_between : Option Addr} {sl_is_between : Array (Option Value)} {oc_is_between kV_is_between dc_is_between pm_is_between cd_is_between ct_is_between : Value}
    {f_check_number : Addr} {od_check_number an_check_number : Option Addr} {sl_check_number : Array (Option Value)} {oc_check_number kV_check_number dc_check_number pm_check_number cd_check_number ct_check_number : Value}
    {f_check_near_form : Addr} {od_check_near_form an_check_near_form : Option Addr} {sl_check_near_form : Array (Option Value)} {oc_check_near_form kV_check_near_form dc_check_near_form pm_check_near_form cd_check_near_form ct_check_near_form : Value}
    {f_near_prices : Addr} {od_near_prices an_near_prices : Option Addr} {sl_near_prices : Array (Option Value)} {oc_near_prices kV_near_prices dc_near_prices pm_near_prices cd_near_prices ct_near_prices : Value}
    {f_Terms___init__ : Addr} {od_Terms___init__ an_Terms___init__ : Option Addr} {sl_Terms___init__ : Array (Option Value)} {oc_Terms___init__ kV_Terms___init__ dc_Terms___init__ pm_Terms___init__ cd_Terms___init__ ct_Terms___init__ : Value}
    {dA_Terms___init__ : Addr} {do_Terms___init__ : Value} {dd_Terms___init__ : Option Addr} {dn_Terms___init__ : Nat} {ds_Terms___init__ : Array (Option Value)} {tt_Terms___init__ : Tok}
    {f_Terms_pair_worth : Addr} {od_Terms_pair_worth an_Terms_pair_worth : Option Addr} {sl_Terms_pair_worth : Array (Option Value)} {oc_Terms_pair_worth kV_Terms_pair_worth dc_Terms_pair_worth pm_Terms_pair_worth cd_Terms_pair_worth ct_Terms_pair_worth : Value}
    {f_is_answer : Addr} {od_is_answer an_is_answer : Option Addr} {sl_is_answer : Array (Option Value)} {oc_is_answer kV_is_answer dc_is_answer pm_is_answer cd_is_answer ct_is_answer : Value}
    {f_near_stretches : Addr} {od_near_stretches an_near_stretches : Option Addr} {sl_near_stretches : Array (Option Value)} {oc_near_stretches kV_near_stretches dc_near_stretches pm_near_stretches cd_near_stretches ct_near_stretches : Value}
    {f__law_at : Addr} {od__law_at an__law_at : Option Addr} {sl__law_at : Array (Option Value)} {oc__law_at kV__law_at dc__law_at pm__law_at cd__law_at ct__law_at : Value}
    {f__law_whole : Addr} {od__law_whole an__law_whole : Option Addr} {sl__law_whole : Array (Option Value)} {oc__law_whole kV__law_whole dc__law_whole pm__law_whole cd__law_whole ct__law_whole : Value}
    {f__law_bank : Addr} {od__law_bank an__law_bank : Option Addr} {sl__law_bank : Array (Option Value)} {oc__law_bank kV__law_bank dc__law_bank pm__law_bank cd__law_bank ct__law_bank : Value}
    {f__law_book : Addr} {od__law_book an__law_book : Option Addr} {sl__law_book : Array (Option Value)} {oc__law_book kV__law_book dc__law_book pm__law_book cd__law_book ct__law_book : Value}
    {f__law_near : Addr} {od__law_near an__law_near : Option Addr} {sl__law_near : Array (Option Value)} {oc__law_near kV__law_near dc__law_near pm__law_near cd__law_near ct__law_near : Value}
    {f__law_pairs : Addr} {od__law_pairs an__law_pairs : Option Addr} {sl__law_pairs : Array (Option Value)} {oc__law_pairs kV__law_pairs dc__law_pairs pm__law_pairs cd__law_pairs ct__law_pairs : Value}
    {f__law_texts : Addr} {od__law_texts an__law_texts : Option Addr} {sl__law_texts : Array (Option Value)} {oc__law_texts kV__law_texts dc__law_texts pm__law_texts cd__law_texts ct__law_texts : Value}
    {f__law_stretches : Addr} {od__law_stretches an__law_stretches : Option Addr} {sl__law_stretches : Array (Option Value)} {oc__law_stretches kV__law_stretches dc__law_stretches pm__law_stretches cd__law_stretches ct__law_stretches : Value}
    {f_law : Addr} {od_law an_law : Option Addr} {sl_law : Array (Option Value)} {oc_law kV_law dc_law pm_law cd_law ct_law : Value}
    {t_WORD_MOST : Tok}
    {t_WORTH_MOST : Tok}
    {t_NEAR_MOST : Tok}
    {t_PART_MOST : Tok}
    {C_BadTerms : Addr}
    {C_BadNear : Addr}
    (g_Terms : W.nsIn K mainGlobals "Terms" = some (some (.ref C_Terms)))
    (a_is_small_letter : W.nsIn K mainGlobals "is_small_letter" = some (some (.ref f_is_small_letter)))
    (l_is_small_letter : K.lookup f_is_small_letter = some ⟨oc_is_small_letter, od_is_small_letter, .func (W.fnOf "is_small_letter" "is_small_letter" (defArgs s_is_small_letter) (defBody s_is_small_letter) (defScope s_is_small_letter) .none kV_is_small_letter dc_is_small_letter pm_is_small_letter an_is_small_letter cd_is_small_letter ct_is_small_letter), sl_is_small_letter⟩)
    (c_is_small_letter : W.codeIn K cd_is_small_letter "is_small_letter" = true) (k_is_small_letter : W.keepIn K (.ref f_is_small_letter) = true)
    (a_is_word : W.nsIn K mainGlobals "is_word" = some (some (.ref f_is_word)))
    (l_is_word : K.lookup f_is_word = some ⟨oc_is_word, od_is_word, .func (W.fnOf "is_word" "is_word" (defArgs s_is_word) (defBody s_is_word) (defScope s_is_word) .none kV_is_word dc_is_word pm_is_word an_is_word cd_is_word ct_is_word), sl_is_word⟩)
    (c_is_word : W.codeIn K cd_is_word "is_word" = true) (k_is_word : W.keepIn K (.ref f_is_word) = true)
    (a_is_between : W.nsIn K mainGlobals "is_between" = some (some (.ref f_is_between)))
    (l_is_between : K.lookup f_is_between = some ⟨oc_is_between, od_is_between, .func (W.fnOf "is_between" "is_between" (defArgs s_is_between) (defBody s_is_between) (defScope s_is_between) .none kV_is_between dc_is_between pm_is_between an_is_between cd_is_between ct_is_between), sl_is_between⟩)
    (c_is_between : W.codeIn K cd_is_between "is_between" = true) (k_is_between : W.keepIn K (.ref f_is_between) = true)
    (a_check_number : W.nsIn K mainGlobals "check_number" = some (some (.ref f_check_number)))
    (l_check_number : K.lookup f_check_number = some ⟨oc_check_number, od_check_number, .func (W.fnOf "check_number" "check_number" (defArgs s_check_number) (defBody s_check_number) (defScope s_check_number) .none kV_check_number dc_check_number pm_check_number an_check_number cd_check_number ct_check_number), sl_check_number⟩)
    (c_check_number : W.codeIn K cd_check_number "check_number" = true) (k_check_number : W.keepIn K (.ref f_check_number) = true)
    (a_check_near_form : W.nsIn K mainGlobals "check_near_form" = some (some (.ref f_check_near_form)))
    (l_check_near_form : K.lookup f_check_near_form = some ⟨oc_check_near_form, od_check_near_form, .func (W.fnOf "check_near_form" "check_near_form" (defArgs s_check_near_form) (defBody s_check_near_form) (defScope s_check_near_form) .none kV_check_near_form dc_check_near_form pm_check_near_form an_check_near_form cd_check_near_form ct_check_near_form), sl_check_near_form⟩)
    (c_check_near_form : W.codeIn K cd_check_near_form "check_near_form" = true) (k_check_near_form : W.keepIn K (.ref f_check_near_form) = true)
    (a_near_prices : W.nsIn K mainGlobals "near_prices" = some (some (.ref f_near_prices)))
    (l_near_prices : K.lookup f_near_prices = some ⟨oc_near_prices, od_near_prices, .func (W.fnOf "near_prices" "near_prices" (defArgs s_near_prices) (defBody s_near_prices) (defScope s_near_prices) .none kV_near_prices dc_near_prices pm_near_prices an_near_prices cd_near_prices ct_near_prices), sl_near_prices⟩)
    (c_near_prices : W.codeIn K cd_near_prices "near_prices" = true) (k_near_prices : W.keepIn K (.ref f_near_prices) = true)
    (a_Terms___init__ : W.findIn K (.ref C_Terms) "__init__" = some (some (.ref f_Terms___init__))) (i_Terms___init__ : W.isFn K (.ref f_Terms___init__) = true)
    (l_Terms___init__ : K.lookup f_Terms___init__ = some ⟨oc_Terms___init__, od_Terms___init__, .func (W.fnOf "__init__" "Terms.__init__" (defArgs s_Terms___init__) (defBody s_Terms___init__) (defScope s_Terms___init__) (.ref dA_Terms___init__) kV_Terms___init__ dc_Terms___init__ pm_Terms___init__ an_Terms___init__ cd_Terms___init__ ct_Terms___init__), sl_Terms___init__⟩)
    (c_Terms___init__ : W.codeIn K cd_Terms___init__ "Terms.__init__" = true) (k_Terms___init__ : W.keepIn K (.ref f_Terms___init__) = true)
    (dv_Terms___init__ : K.lookup dA_Terms___init__ = some ⟨do_Terms___init__, dd_Terms___init__, .seq #[.int 50 tt_Terms___init__, .none] dn_Terms___init__, ds_Terms___init__⟩)
    (a_Terms_pair_worth : W.findIn K (.ref C_Terms) "pair_worth" = some (some (.ref f_Terms_pair_worth))) (i_Terms_pair_worth : W.isFn K (.ref f_Terms_pair_worth) = true)
    (l_Terms_pair_worth : K.lookup f_Terms_pair_worth = some ⟨oc_Terms_pair_worth, od_Terms_pair_worth, .func (W.fnOf "pair_worth" "Terms.pair_worth" (defArgs s_Terms_pair_worth) (defBody s_Terms_pair_worth) (defScope s_Terms_pair_worth) .none kV_Terms_pair_worth dc_Terms_pair_worth pm_Terms_pair_worth an_Terms_pair_worth cd_Terms_pair_worth ct_Terms_pair_worth), sl_Terms_pair_worth⟩)
    (c_Terms_pair_worth : W.codeIn K cd_Terms_pair_worth "Terms.pair_worth" = true) (k_Terms_pair_worth : W.keepIn K (.ref f_Terms_pair_worth) = true)
    (a_is_answer : W.nsIn K mainGlobals "is_answer" = some (some (.ref f_is_answer)))
    (l_is_answer : K.lookup f_is_answer = some ⟨oc_is_answer, od_is_answer, .func (W.fnOf "is_answer" "is_answer" (defArgs s_is_answer) (defBody s_is_answer) (defScope s_is_answer) .none kV_is_answer dc_is_answer pm_is_answer an_is_answer cd_is_answer ct_is_answer), sl_is_answer⟩)
    (c_is_answer : W.codeIn K cd_is_answer "is_answer" = true) (k_is_answer : W.keepIn K (.ref f_is_answer) = true)
    (a_near_stretches : W.nsIn K mainGlobals "near_stretches" = some (some (.ref f_near_stretches)))
    (l_near_stretches : K.lookup f_near_stretches = some ⟨oc_near_stretches, od_near_stretches, .func (W.fnOf "near_stretches" "near_stretches" (defArgs s_near_stretches) (defBody s_near_stretches) (defScope s_near_stretches) .none kV_near_stretches dc_near_stretches pm_near_stretches an_near_stretches cd_near_stretches ct_near_stretches), sl_near_stretches⟩)
    (c_near_stretches : W.codeIn K cd_near_stretches "near_stretches" = true) (k_near_stretches : W.keepIn K (.ref f_near_stretches) = true)
    (a__law_at : W.nsIn K mainGlobals "_law_at" = some (some (.ref f__law_at)))
    (l__law_at : K.lookup f__law_at = some ⟨oc__law_at, od__law_at, .func (W.fnOf "_law_at" "_law_at" (defArgs s__law_at) (defBody s__law_at) (defScope s__law_at) .none kV__law_at dc__law_at pm__law_at an__law_at cd__law_at ct__law_at), sl__law_at⟩)
    (c__law_at : W.codeIn K cd__law_at "_law_at" = true) (k__law_at : W.keepIn K (.ref f__law_at) = true)
    (a__law_whole : W.nsIn K mainGlobals "_law_whole" = some (some (.ref f__law_whole)))
    (l__law_whole : K.lookup f__law_whole = some ⟨oc__law_whole, od__law_whole, .func (W.fnOf "_law_whole" "_law_whole" (defArgs s__law_whole) (defBody s__law_whole) (defScope s__law_whole) .none kV__law_whole dc__law_whole pm__law_whole an__law_whole cd__law_whole ct__law_whole), sl__law_whole⟩)
    (c__law_whole : W.codeIn K cd__law_whole "_law_whole" = true) (k__law_whole : W.keepIn K (.ref f__law_whole) = true)
    (a__law_bank : W.nsIn K mainGlobals "_law_bank" = some (some (.ref f__law_bank)))
    (l__law_bank : K.lookup f__law_bank = some ⟨oc__law_bank, od__law_bank, .func (W.fnOf "_law_bank" "_law_bank" (defArgs s__law_bank) (defBody s__law_bank) (defScope s__law_bank) .none kV__law_bank dc__law_bank pm__law_bank an__law_bank cd__law_bank ct__law_bank), sl__law_bank⟩)
    (c__law_bank : W.codeIn K cd__law_bank "_law_bank" = true) (k__law_bank : W.keepIn K (.ref f__law_bank) = true)
    (a__law_book : W.nsIn K mainGlobals "_law_book" = some (some (.ref f__law_book)))
    (l__law_book : K.lookup f__law_book = some ⟨oc__law_book, od__law_book, .func (W.fnOf "_law_book" "_law_book" (defArgs s__law_book) (defBody s__law_book) (defScope s__law_book) .none kV__law_book dc__law_book pm__law_book an__law_book cd__law_book ct__law_book), sl__law_book⟩)
    (c__law_book : W.codeIn K cd__law_book "_law_book" = true) (k__law_book : W.keepIn K (.ref f__law_book) = true)
    (a__law_near : W.nsIn K mainGlobals "_law_near" = some (some (.ref f__law_near)))
    (l__law_near : K.lookup f__law_near = some ⟨oc__law_near, od__law_near, .func (W.fnOf "_law_near" "_law_near" (defArgs s__law_near) (defBody s__law_near) (defScope s__law_near) .none kV__law_near dc__law_near pm__law_near an__law_near cd__law_near ct__law_near), sl__law_near⟩)
    (c__law_near : W.codeIn K cd__law_near "_law_near" = true) (k__law_near : W.keepIn K (.ref f__law_near) = true)
    (a__law_pairs : W.nsIn K mainGlobals "_law_pairs" = some (some (.ref f__law_pairs)))
    (l__law_pairs : K.lookup f__law_pairs = some ⟨oc__law_pairs, od__law_pairs, .func (W.fnOf "_law_pairs" "_law_pairs" (defArgs s__law_pairs) (defBody s__law_pairs) (defScope s__law_pairs) .none kV__law_pairs dc__law_pairs pm__law_pairs an__law_pairs cd__law_pairs ct__law_pairs), sl__law_pairs⟩)
    (c__law_pairs : W.codeIn K cd__law_pairs "_law_pairs" = true) (k__law_pairs : W.keepIn K (.ref f__law_pairs) = true)
    (a__law_texts : W.nsIn K mainGlobals "_law_texts" = some (some (.ref f__law_texts)))
    (l__law_texts : K.lookup f__law_texts = some ⟨oc__law_texts, od__law_texts, .func (W.fnOf "_law_texts" "_law_texts" (defArgs s__law_texts) (defBody s__law_texts) (defScope s__law_texts) .none kV__law_texts dc__law_texts pm__law_texts an__law_texts cd__law_texts ct__law_texts), sl__law_texts⟩)
    (c__law_texts : W.codeIn K cd__law_texts "_law_texts" = true) (k__law_texts : W.keepIn K (.ref f__law_texts) = true)
    (a__law_stretches : W.nsIn K mainGlobals "_law_stretches" = some (some (.ref f__law_stretches)))
    (l__law_stretches : K.lookup f__law_stretches = some ⟨oc__law_stretches, od__law_stretches, .func (W.fnOf "_law_stretches" "_law_stretches" (defArgs s__law_stretches) (defBody s__law_stretches) (defScope s__law_stretches) .none kV__law_stretches dc__law_stretches pm__law_stretches an__law_stretches cd__law_stretches ct__law_stretches), sl__law_stretches⟩)
    (c__law_stretches : W.codeIn K cd__law_stretches "_law_stretches" = true) (k__law_stretches : W.keepIn K (.ref f__law_stretches) = true)
    (a_law : W.nsIn K mainGlobals "law" = some (some (.ref f_law)))
    (l_law : K.lookup f_law = some ⟨oc_law, od_law, .func (W.fnOf "law" "law" (defArgs s_law) (defBody s_law) (defScope s_law) .none kV_law dc_law pm_law an_law cd_law ct_law), sl_law⟩)
    (c_law : W.codeIn K cd_law "law" = true) (k_law : W.keepIn K (.ref f_law) = true)
    (gp_Terms : W.plainGet K C_Terms Str.empty = true) (gh_Terms : W.hasDictIn K C_Terms = true) (go_Terms : W.plainOver K C_Terms = true) (gs_Terms : W.findIn K (.ref C_Terms) "__setattr__" = some (some (.builtin "object.__setattr__"))) (gm_Terms : W.makesIn K C_Terms = true) (gk_Terms : W.keepIn K (.ref C_Terms) = true)
    (na_Terms_same : W.findIn K (.ref C_Terms) "same" = some none)
    (na_Terms_out : W.findIn K (.ref C_Terms) "out" = some none)
    (na_Terms_into : W.findIn K (.ref C_Terms) "into" = some none)
    (na_Terms_least : W.findIn K (.ref C_Terms) "least" = some none)
    (na_Terms_part : W.findIn K (.ref C_Terms) "part" = some none)
    (na_Terms_near : W.findIn K (.ref C_Terms) "near" = some none)
    (na_Terms_prices : W.findIn K (.ref C_Terms) "prices" = some none)
    (z_len : W.nsIn K mainGlobals "len" = some none)
    (z_range : W.nsIn K mainGlobals "range" = some none)
    (z_isinstance : W.nsIn K mainGlobals "isinstance" = some none)
    (z_int : W.nsIn K mainGlobals "int" = some none)
    (z_bool : W.nsIn K mainGlobals "bool" = some none)
    (z_str : W.nsIn K mainGlobals "str" = some none)
    (z_list : W.nsIn K mainGlobals "list" = some none)
    (z_tuple : W.nsIn K mainGlobals "tuple" = some none)
    (z_dict : W.nsIn K mainGlobals "dict" = some none)
    (z_all : W.nsIn K mainGlobals "all" = some none)
    (z_any : W.nsIn K mainGlobals "any" = some none)
    (z_min : W.nsIn K mainGlobals "min" = some none)
    (z_max : W.nsIn K mainGlobals "max" = some none)
    (z_enumerate : W.nsIn K mainGlobals "enumerate" = some none)
    (z_ValueError : W.nsIn K mainGlobals "ValueError" = some none)
    (y_WORD_MOST : W.nsIn K mainGlobals "WORD_MOST" = some (some (.int 12 t_WORD_MOST)))
    (y_WORTH_MOST : W.nsIn K mainGlobals "WORTH_MOST" = some (some (.int 999999 t_WORTH_MOST)))
    (y_NEAR_MOST : W.nsIn K mainGlobals "NEAR_MOST" = some (some (.int 60 t_NEAR_MOST)))
    (y_PART_MOST : W.nsIn K mainGlobals "PART_MOST" = some (some (.int 100 t_PART_MOST)))
    (x_BadTerms : W.nsIn K mainGlobals "BadTerms" = some (some (.ref C_BadTerms)))
    (xe_BadTerms : W.excIn K C_BadTerms [.type "ValueError", .type "Exception", .type "BaseException", .type "object"] "ValueError.__new__" = true)
    (xc_BadTerms : W.findIn K (.ref C_BadTerms) "__class__" = some (some (.builtin "object.__class__"))) (xo_BadTerms : W.mroIn K C_BadTerms (.type "object") = some true) (xb_BadTerms : W.mroIn K C_BadTerms (.type "BaseException") = some true)
    (xg_BadTerms : W.findIn K (.ref C_BadTerms) "__getattribute__" = some (some (.builtin "BaseException.__getattribute__"))) (xn_BadTerms : W.findIn K (.ref C_BadTerms) "__getattr__" = some none) (xt_BadTerms : W.instIn K (.ref C_BadTerms) (.type "tuple") = some false) (xk_BadTerms : W.keepIn K (.ref C_BadTerms) = true)
    (x_BadNear : W.nsIn K mainGlobals "BadNear" = some (some (.ref C_BadNear)))
    (xe_BadNear : W.excIn K C_BadNear [.type "ValueError", .type "Exception", .type "BaseException", .type "object"] "ValueError.__new__" = true)
    (xc_BadNear : W.findIn K (.ref C_BadNear) "__class__" = some (some (.builtin "object.__class__"))) (xo_BadNear : W.mroIn K C_BadNear (.type "object") = some true) (xb_BadNear : W.mroIn K C_BadNear (.type "BaseException") = some true)
    (xg_BadNear : W.findIn K (.ref C_BadNear) "__getattribute__" = some (some (.builtin "BaseException.__getattribute__"))) (xn_BadNear : W.findIn K (.ref C_BadNear) "__getattr__" = some none) (xt_BadNear : W.instIn K (.ref C_BadNear) (.type "tuple") = some false) (xk_BadNear : W.keepIn K (.ref C_BadNear) = true)
    (z_zip : W.nsIn K mainGlobals "zip" = some none)
    : ∃ fd : FuncData, (∀ (s : Shared) (v : Value), BindsTo s fd ⟨[v], []⟩ [("_law_script", v)]) ∧ ∀ base : Heap, K.In base → base.Ns mainGlobals mg → FnOk l.prog w K mg base (CXF l.prog w) true 7 fa fd ["_law_script"] (spLaw K) := by
  have e := hfa.symm.trans (W.mg_of X G a_law)
  cases e
  have T : TB mg := ⟨W.mg_none_of X G z_len, W.mg_none_of X G z_range, W.mg_none_of X G z_isinstance, W.mg_none_of X G z_int, W.mg_none_of X G z_bool, W.mg_none_of X G z_str, W.mg_none_of X G z_list, W.mg_none_of X G z_tuple, W.mg_none_of X G z_dict, W.mg_none_of X G z_all, W.mg_none_of X G z_any, W.mg_none_of X G z_min, W.mg_none_of X G z_max, W.mg_none_of X G z_enumerate, W.mg_none_of X G z_ValueError⟩
  have c_WORD_MOST : Con mg "WORD_MOST" (.int 12) := ⟨_, W.mg_of X G y_WORD_MOST, _, rfl⟩
  have c_WORTH_MOST : Con mg "WORTH_MOST" (.int 999999) := ⟨_, W.mg_of X G y_WORTH_MOST, _, rfl⟩
  have c_NEAR_MOST : Con mg "NEAR_MOST" (.int 60) := ⟨_, W.mg_of X G y_NEAR_MOST, _, rfl⟩
  have c_PART_MOST : Con mg "PART_MOST" (.int 100) := ⟨_, W.mg_of X G y_PART_MOST, _, rfl⟩
  have e_BadTerms : Er K mg "BadTerms" C_BadTerms := ⟨W.mg_of X G x_BadTerms, xe_BadTerms, xc_BadTerms, xo_BadTerms, xb_BadTerms, xg_BadTerms, xn_BadTerms, xt_BadTerms, xk_BadTerms⟩
  have e_BadNear : Er K mg "BadNear" C_BadNear := ⟨W.mg_of X G x_BadNear, xe_BadNear, xc_BadNear, xo_BadNear, xb_BadNear, xg_BadNear, xn_BadNear, xt_BadNear, xk_BadNear⟩
  have m_Terms := W.mg_of X G g_Terms
  have cl_Terms : Cls K C_Terms := ⟨gp_Terms, gh_Terms, go_Terms, gs_Terms⟩
  have Tc : TermsC K C_Terms := ⟨cl_Terms, na_Terms_same, na_Terms_out, na_Terms_into, na_Terms_least, na_Terms_part, na_Terms_near, na_Terms_prices⟩
  have n_zip : mg "zip" = none := W.mg_none_of X G z_zip
  refine ⟨W.fnOf "law" "law" (defArgs s_law) (defBody s_law) (defScope s_law) .none kV_law dc_law pm_law an_law cd_law ct_law, fun s v => .of_eq rfl, fun base _ _ => ?_⟩
  have F_is_small_letter := fun_mk (st := s_is_small_letter) l_is_small_letter c_is_small_letter k_is_small_letter
  have b_is_small_letter := F_is_small_letter.binds (ps := ["sign"]) fun _ _ _ _ _ _ us hl => on1 (P := fun us => bindArgs _ ⟨us, []⟩ = pure (List.zip _ us)) (fun _ => rfl) us hl
  have D_is_small_letter := isDef_mk (P := l.prog) (w := w) (base := base) F_is_small_letter (W.mg_of X G a_is_small_letter) b_is_small_letter (ok_is_small_letter F_is_small_letter T)
  have F_is_word := fun_mk (st := s_is_word) l_is_word c_is_word k_is_word
  have b_is_word := F_is_word.binds (ps := ["text"]) fun _ _ _ _ _ _ us hl => on1 (P := fun us => bindArgs _ ⟨us, []⟩ = pure (List.zip _ us)) (fun _ => rfl) us hl
  have D_is_word := isDef_mk (P := l.prog) (w := w) (base := base) F_is_word (W.mg_of X G a_is_word) b_is_word (ok_is_word F_is_word T c_WORD_MOST D_is_small_letter)
  have F_is_between := fun_mk (st := s_is_between) l_is_between c_is_between k_is_between
  have b_is_between := F_is_between.binds (ps := ["low", "number", "high"]) fun _ _ _ _ _ _ us hl => on3 (P := fun us => bindArgs _ ⟨us, []⟩ = pure (List.zip _ us)) (fun _ _ _ => rfl) us hl
  have D_is_between := isDef_mk (P := l.prog) (w := w) (base := base) F_is_between (W.mg_of X G a_is_between) b_is_between (ok_is_between F_is_between T)
  have F_check_number := fun_mk (st := s_check_number) l_check_number c_check_number k_check_number
  have b_check_number := F_check_number.binds (ps := ["name", "number", "low", "high"]) fun _ _ _ _ _ _ us hl => on4 (P := fun us => bindArgs _ ⟨us, []⟩ = pure (List.zip _ us)) (fun _ _ _ _ => rfl) us hl
  have D_check_number := isDef_mk (P := l.prog) (w := w) (base := base) F_check_number (W.mg_of X G a_check_number) b_check_number (ok_check_number F_check_number T D_is_between e_BadTerms)
  have F_check_near_form := fun_mk (st := s_check_near_form) l_check_near_form c_check_near_form k_check_near_form
  have b_check_near_form := F_check_near_form.binds (ps := ["x", "y", "price"]) fun _ _ _ _ _ _ us hl => on3 (P := fun us => bindArgs _ ⟨us, []⟩ = pure (List.zip _ us)) (fun _ _ _ => rfl) us hl
  have D_check_near_form := isDef_mk (P := l.prog) (w := w) (base := base) F_check_near_form (W.mg_of X G a_check_near_form) b_check_near_form (ok_check_near_form F_check_near_form T c_WORTH_MOST D_is_word D_is_between e_BadNear)
  have F_near_prices := fun_mk (st := s_near_prices) l_near_prices c_near_prices k_near_prices
  have b_near_prices := F_near_prices.binds (ps := ["near"]) fun _ _ _ _ _ _ us hl => on1 (P := fun us => bindArgs _ ⟨us, []⟩ = pure (List.zip _ us)) (fun _ => rfl) us hl
  have D_near_prices := isDef_mk (P := l.prog) (w := w) (base := base) F_near_prices (W.mg_of X G a_near_prices) b_near_prices (ok_near_prices F_near_prices T c_NEAR_MOST D_check_near_form e_BadNear)
  have F_Terms___init__ := funD_mk (st := s_Terms___init__) l_Terms___init__ c_Terms___init__ k_Terms___init__
  have O_Terms___init__ := ok_Terms___init__ (P := l.prog) (w := w) (base := base) F_Terms___init__ T c_WORTH_MOST c_PART_MOST D_check_number D_near_prices Tc
  have b_N6_Terms : Binds K (W.fnOf "__init__" "Terms.__init__" (defArgs s_Terms___init__) (defBody s_Terms___init__) (defScope s_Terms___init__) (.ref dA_Terms___init__) kV_Terms___init__ dc_Terms___init__ pm_Terms___init__ an_Terms___init__ cd_Terms___init__ ct_Terms___init__) ["self", "same", "out", "into", "least", "part", "near"] [] := fun s us hK hl => by
    have hl2 : us.length = 7 := by simpa using hl
    match us, hl2 with | [_, _, _, _, _, _, _], _ => exact BindsTo.of_defaults rfl (hK _ _ dv_Terms___init__) rfl rfl rfl
  have N6_Terms : IsNew l.prog w K mg base true 5 "Terms" C_Terms ["self", "same", "out", "into", "least", "part", "near"] [] (sp_init C_Terms C_BadTerms C_BadNear) := isNew_mk O_Terms___init__ ⟨gm_Terms, a_Terms___init__, i_Terms___init__, gk_Terms⟩ m_Terms b_N6_Terms (.nil)
  have F_Terms_pair_worth := funD_mk (st := s_Terms_pair_worth) l_Terms_pair_worth c_Terms_pair_worth k_Terms_pair_worth
  have O_Terms_pair_worth := ok_Terms_pair_worth (P := l.prog) (w := w) (base := base) F_Terms_pair_worth T Tc
  have b_Terms_pair_worth : Binds K (W.fnOf "pair_worth" "Terms.pair_worth" (defArgs s_Terms_pair_worth) (defBody s_Terms_pair_worth) (defScope s_Terms_pair_worth) .none kV_Terms_pair_worth dc_Terms_pair_worth pm_Terms_pair_worth an_Terms_pair_worth cd_Terms_pair_worth ct_Terms_pair_worth) ["self", "x", "y"] [] := .all fun us hl => on3 (P := fun us => bindArgs _ ⟨us, []⟩ = pure (List.zip _ us)) (fun _ _ _ => rfl) us hl
  have M_Terms_pair_worth : IsMeth l.prog w K mg base true 1 C_Terms "pair_worth" ["self", "x", "y"] (sp_pair C_Terms) := isMeth_mk O_Terms_pair_worth ⟨a_Terms_pair_worth, i_Terms_pair_worth, k_Terms_pair_worth⟩ b_Terms_pair_worth cl_Terms
  have F_is_answer := fun_mk (st := s_is_answer) l_is_answer c_is_answer k_is_answer
  have b_is_answer := F_is_answer.binds (ps := ["word", "told_word", "terms"]) fun _ _ _ _ _ _ us hl => on3 (P := fun us => bindArgs _ ⟨us, []⟩ = pure (List.zip _ us)) (fun _ _ _ => rfl) us hl
  have D_is_answer := isDef_mk (P := l.prog) (w := w) (base := base) F_is_answer (W.mg_of X G a_is_answer) b_is_answer (ok_is_answer F_is_answer T M_Terms_pair_worth Tc)
  have F_near_stretches := fun_mk (st := s_near_stretches) l_near_stretches c_near_stretches k_near_stretches
  have b_near_stretches := F_near_stretches.binds (ps := ["words", "told", "within", "terms"]) fun _ _ _ _ _ _ us hl => on4 (P := fun us => bindArgs _ ⟨us, []⟩ = pure (List.zip _ us)) (fun _ _ _ _ => rfl) us hl
  have D_near_stretches := isDef_mk (P := l.prog) (w := w) (base := base) F_near_stretches (W.mg_of X G a_near_stretches) b_near_stretches (ok_near_stretches F_near_stretches T D_is_answer n_zip)
  have F__law_at := fun_mk (st := s__law_at) l__law_at c__law_at k__law_at
  have b__law_at := F__law_at.binds (ps := ["_law_script", "_law_k"]) fun _ _ _ _ _ _ us hl => on2 (P := fun us => bindArgs _ ⟨us, []⟩ = pure (List.zip _ us)) (fun _ _ => rfl) us hl
  have D__law_at := isDef_mk (P := l.prog) (w := w) (base := base) F__law_at (W.mg_of X G a__law_at) b__law_at (ok__law_at F__law_at T)
  have F__law_whole := fun_mk (st := s__law_whole) l__law_whole c__law_whole k__law_whole
  have b__law_whole := F__law_whole.binds (ps := ["_law_found"]) fun _ _ _ _ _ _ us hl => on1 (P := fun us => bindArgs _ ⟨us, []⟩ = pure (List.zip _ us)) (fun _ => rfl) us hl
  have D__law_whole := isDef_mk (P := l.prog) (w := w) (base := base) F__law_whole (W.mg_of X G a__law_whole) b__law_whole (ok__law_whole F__law_whole T)
  have F__law_bank := fun_mk (st := s__law_bank) l__law_bank c__law_bank k__law_bank
  have b__law_bank := F__law_bank.binds (ps := ["_law_cell", "_law_other", "_law_many"]) fun _ _ _ _ _ _ us hl => on3 (P := fun us => bindArgs _ ⟨us, []⟩ = pure (List.zip _ us)) (fun _ _ _ => rfl) us hl
  have D__law_bank := isDef_mk (P := l.prog) (w := w) (base := base) F__law_bank (W.mg_of X G a__law_bank) b__law_bank (ok__law_bank F__law_bank T)
  have F__law_book := fun_mk (st := s__law_book) l__law_book c__law_book k__law_book
  have b__law_book := F__law_book.binds (ps := ["_law_script", "_law_cell", "_law_spot", "_law_many", "_law_bank_here"]) fun _ _ _ _ _ _ us hl => on5 (P := fun us => bindArgs _ ⟨us, []⟩ = pure (List.zip _ us)) (fun _ _ _ _ _ => rfl) us hl
  have D__law_book := isDef_mk (P := l.prog) (w := w) (base := base) F__law_book (W.mg_of X G a__law_book) b__law_book (ok__law_book F__law_book T D__law_at)
  have F__law_near := fun_mk (st := s__law_near) l__law_near c__law_near k__law_near
  have b__law_near := F__law_near.binds (ps := ["_law_cell", "_law_bank_here", "_law_same"]) fun _ _ _ _ _ _ us hl => on3 (P := fun us => bindArgs _ ⟨us, []⟩ = pure (List.zip _ us)) (fun _ _ _ => rfl) us hl
  have D__law_near := isDef_mk (P := l.prog) (w := w) (base := base) F__law_near (W.mg_of X G a__law_near) b__law_near (ok__law_near F__law_near T)
  have F__law_pairs := fun_mk (st := s__law_pairs) l__law_pairs c__law_pairs k__law_pairs
  have b__law_pairs := F__law_pairs.binds (ps := ["_law_found"]) fun _ _ _ _ _ _ us hl => on1 (P := fun us => bindArgs _ ⟨us, []⟩ = pure (List.zip _ us)) (fun _ => rfl) us hl
  have D__law_pairs := isDef_mk (P := l.prog) (w := w) (base := base) F__law_pairs (W.mg_of X G a__law_pairs) b__law_pairs (ok__law_pairs F__law_pairs T D__law_whole)
  have F__law_texts := fun_mk (st := s__law_texts) l__law_texts c__law_texts k__law_texts
  have b__law_texts := F__law_texts.binds (ps := ["_law_found", "_law_due"]) fun _ _ _ _ _ _ us hl => on2 (P := fun us => bindArgs _ ⟨us, []⟩ = pure (List.zip _ us)) (fun _ _ => rfl) us hl
  have D__law_texts := isDef_mk (P := l.prog) (w := w) (base := base) F__law_texts (W.mg_of X G a__law_texts) b__law_texts (ok__law_texts F__law_texts T)
  have F__law_stretches := fun_mk (st := s__law_stretches) l__law_stretches c__law_stretches k__law_stretches
  have b__law_stretches := F__law_stretches.binds (ps := ["_law_book_here", "_law_wanted", "_law_span", "_law_near_here"]) fun _ _ _ _ _ _ us hl => on4 (P := fun us => bindArgs _ ⟨us, []⟩ = pure (List.zip _ us)) (fun _ _ _ _ => rfl) us hl
  have D__law_stretches := isDef_mk (P := l.prog) (w := w) (base := base) F__law_stretches (W.mg_of X G a__law_stretches) b__law_stretches (ok__law_stretches F__law_stretches T)
  have F_law := fun_mk (st := s_law) l_law c_law k_law
  exact ok_law F_law T D__law_at D__law_bank D__law_book D__law_near D__law_stretches D__law_texts D__law_pairs D_near_stretches N6_Terms
theorem walk {l : W.OpenLaw} {q : Program} {loose : List Str} {XP : (Str → Option Value) → Heap → Prop} {YP : World → Heap → Prop} {d : DefRec} {K : Params → W.Frag} (hn : l.most = some 63) (hdf : d.params.defaults = [])
    (hY : ∀ (w : World) (h : Heap), YP w h → (K w.params).In h)
    (F : ∀ (w : World) (mg : Str → Option Value) (fa : Addr) (h : Heap), (K w.params).In h → h.Ns mainGlobals mg → mg d.name = some (.ref fa) →
      ∃ fd : FuncData, (∀ (s : Shared) (u : Value), BindsTo s fd ⟨[u], []⟩ [("_law_script", u)]) ∧ ∀ base : Heap, (K w.params).In base → base.Ns mainGlobals mg → FnOk l.prog w (K w.params) mg base (CXF l.prog w) true 7 fa fd ["_law_script"] (spLaw (K w.params))) :
    W.WalkO q loose XP YP l.row.toRowW d [] (fun f vs => PySem.call f vs) :=
  L2.walk_of (n := 63) (k := 7) (x := "_law_script") (CX := fun w => CXF l.prog w) (sp := fun w => spLaw (K w.params)) hn (by decide) hdf ⟨(fun _ => rfl), by decide, by decide⟩ hY F (fun _ _ a ns hl _ hS => ⟨a, ns, rfl, hS, hl, fun _ => rfl⟩) fun _ _ _ _ _ ⟨_, _, _, _, _, _, _, _, _, _, _, _, _, z⟩ => z
end K34
namespace HD
open PySem PySem.W PyProof.Rows L2
noncomputable section
noncomputable abbrev pw : Program := PySem.Challenge.pw_quotefind_k34_near_stretches
theorem prime : (pw.main.body.length == 31) = true := by k_qdec
noncomputable abbrev pq : Program := PySem.W.Fast.tw10370548293981761402
theorem pwq : pw = pq := PySem.W.Fast.te10370548293981761402
noncomputable def z0 : Str := ⟨⟨[60,109,111,100,117,108,101,62]⟩⟩
noncomputable def z1 : Str := ⟨⟨[95,95,109,97,105,110,95,95]⟩⟩
noncomputable def z2 : Str := ⟨⟨[95,95,110,97,109,101,95,95]⟩⟩
noncomputable def z3 : Str := ⟨⟨[108,97,119,95,113,117,111,116,101,102,105,110,100,95,107,51,52,95,110,101,97,114,95,115,116,114,101,116,99,104,101,115]⟩⟩
noncomputable def z4 : Str := ⟨⟨[95,95,100,111,99,95,95]⟩⟩
noncomputable def z5 : Str := ⟨⟨[95,95,112,97,99,107,97,103,101,95,95]⟩⟩
noncomputable def z6 : Str := ⟨⟨[95,95,108,111,97,100,101,114,95,95]⟩⟩
noncomputable def z7 : Str := ⟨⟨[95,95,115,112,101,99,95,95]⟩⟩
noncomputable def z8 : Str := ⟨⟨[95,95,97,110,110,111,116,97,116,105,111,110,115,95,95]⟩⟩
noncomputable def z9 : Str := ⟨⟨[95,95,98,117,105,108,116,105,110,115,95,95]⟩⟩
noncomputable def z10 : Str := ⟨⟨[95,95,102,105,108,101,95,95]⟩⟩
noncomputable def z11 : Str := ⟨⟨[47,99,108,97,105,109,47,99,117,116,46,112,121]⟩⟩
noncomputable def z12 : Str := ⟨⟨[95,95,99,97,99,104,101,100,95,95]⟩⟩
noncomputable def z13 : Str := ⟨⟨[95,119,97,108,108]⟩⟩
noncomputable def z14 : Str := ⟨⟨[81,117,111,116,101,69,114,114,111,114]⟩⟩
noncomputable def z15 : Str := ⟨⟨[66,97,100,84,101,114,109,115]⟩⟩
noncomputable def z16 : Str := ⟨⟨[66,97,100,78,101,97,114]⟩⟩
noncomputable def z17 : Str := ⟨⟨[87,79,82,68,95,77,79,83,84]⟩⟩
noncomputable def z18 : Str := ⟨⟨[105,115,95,115,109,97,108,108,95,108,101,116,116,101,114]⟩⟩
noncomputable def z19 : Str := ⟨⟨[105,115,95,119,111,114,100]⟩⟩
noncomputable def z20 : Str := ⟨⟨[105,115,95,97,110,115,119,101,114]⟩⟩
noncomputable def z21 : Str := ⟨⟨[110,101,97,114,95,115,116,114,101,116,99,104,101,115]⟩⟩
noncomputable def z22 : Str := ⟨⟨[87,79,82,84,72,95,77,79,83,84]⟩⟩
noncomputable def z23 : Str := ⟨⟨[78,69,65,82,95,77,79,83,84]⟩⟩
noncomputable def z24 : Str := ⟨⟨[80,65,82,84,95,77,79,83,84]⟩⟩
noncomputable def z25 : Str := ⟨⟨[105,115,95,98,101,116,119,101,101,110]⟩⟩
noncomputable def z26 : Str := ⟨⟨[99,104,101,99,107,95,110,117,109,98,101,114]⟩⟩
noncomputable def z27 : Str := ⟨⟨[99,104,101,99,107,95,110,101,97,114,95,102,111,114,109]⟩⟩
noncomputable def z28 : Str := ⟨⟨[110,101,97,114,95,112,114,105,99,101,115]⟩⟩
noncomputable def z29 : Str := ⟨⟨[84,101,114,109,115]⟩⟩
noncomputable def z30 : Str := ⟨⟨[95,108,97,119,95,97,116]⟩⟩
noncomputable def z31 : Str := ⟨⟨[95,108,97,119,95,119,104,111,108,101]⟩⟩
noncomputable def z32 : Str := ⟨⟨[95,108,97,119,95,98,97,110,107]⟩⟩
noncomputable def z33 : Str := ⟨⟨[95,108,97,119,95,98,111,111,107]⟩⟩
noncomputable def z34 : Str := ⟨⟨[95,108,97,119,95,110,101,97,114]⟩⟩
noncomputable def z35 : Str := ⟨⟨[95,108,97,119,95,112,97,105,114,115]⟩⟩
noncomputable def z36 : Str := ⟨⟨[95,108,97,119,95,116,101,120,116,115]⟩⟩
noncomputable def z37 : Str := ⟨⟨[95,108,97,119,95,115,116,114,101,116,99,104,101,115]⟩⟩
noncomputable def z38 : Str := ⟨⟨[108,97,119]⟩⟩
noncomputable def z39 : Str := ⟨⟨[107]⟩⟩
noncomputable def z40 : Str := ⟨⟨[95,95,109,111,100,117,108,101,95,95]⟩⟩
noncomputable def z41 : Str := ⟨⟨[113,117,111,116,101,102,105,110,100,46,101,114,114,111,114,115]⟩⟩
noncomputable def z42 : Str := ⟨⟨[95,95,113,117,97,108,110,97,109,101,95,95]⟩⟩
noncomputable def z43 : Str := ⟨⟨[95,95,102,105,114,115,116,108,105,110,101,110,111,95,95]⟩⟩
noncomputable def z44 : Str := ⟨⟨[95,95,115,116,97,116,105,99,95,97,116,116,114,105,98,117,116,101,115,95,95]⟩⟩
noncomputable def z45 : Str := ⟨⟨[95,95,119,101,97,107,114,101,102,95,95]⟩⟩
noncomputable def z46 : Str := ⟨⟨[115,105,103,110]⟩⟩
noncomputable def z47 : Str := ⟨⟨[113,117,111,116,101,102,105,110,100,46,119,111,114,100,115]⟩⟩
noncomputable def z48 : Str := ⟨⟨[119,111,114,100]⟩⟩
noncomputable def z49 : Str := ⟨⟨[116,111,108,100,95,119,111,114,100]⟩⟩
noncomputable def z50 : Str := ⟨⟨[116,101,114,109,115]⟩⟩
noncomputable def z51 : Str := ⟨⟨[113,117,111,116,101,102,105,110,100,46,110,101,97,114,110,101,115,115]⟩⟩
noncomputable def z52 : Str := ⟨⟨[108,111,119]⟩⟩
noncomputable def z53 : Str := ⟨⟨[110,117,109,98,101,114]⟩⟩
noncomputable def z54 : Str := ⟨⟨[104,105,103,104]⟩⟩
noncomputable def z55 : Str := ⟨⟨[113,117,111,116,101,102,105,110,100,46,116,101,114,109,115]⟩⟩
noncomputable def z56 : Str := ⟨⟨[110,97,109,101]⟩⟩
noncomputable def z57 : Str := ⟨⟨[120]⟩⟩
noncomputable def z58 : Str := ⟨⟨[121]⟩⟩
noncomputable def z59 : Str := ⟨⟨[112,114,105,99,101]⟩⟩
noncomputable def z60 : Str := ⟨⟨[110,101,97,114]⟩⟩
noncomputable def z61 : Str := ⟨⟨[112,114,105,99,101,115]⟩⟩
noncomputable def z62 : Str := ⟨⟨[95,95,105,110,105,116,95,95]⟩⟩
noncomputable def z63 : Str := ⟨⟨[112,97,105,114,95,119,111,114,116,104]⟩⟩
noncomputable def z64 : Str := ⟨⟨[116,117,114,110,101,100]⟩⟩
noncomputable def z65 : Str := ⟨⟨[115,101,108,102]⟩⟩
noncomputable def z66 : Str := ⟨⟨[115,97,109,101]⟩⟩
noncomputable def z67 : Str := ⟨⟨[111,117,116]⟩⟩
noncomputable def z68 : Str := ⟨⟨[105,110,116,111]⟩⟩
noncomputable def z69 : Str := ⟨⟨[108,101,97,115,116]⟩⟩
noncomputable def z70 : Str := ⟨⟨[112,97,114,116]⟩⟩
noncomputable def z71 : Str := ⟨⟨[84,101,114,109,115,46,95,95,105,110,105,116,95,95]⟩⟩
noncomputable def z72 : Str := ⟨⟨[84,101,114,109,115,46,112,97,105,114,95,119,111,114,116,104]⟩⟩
noncomputable def z73 : Str := ⟨⟨[84,101,114,109,115,46,116,117,114,110,101,100]⟩⟩
noncomputable def z74 : Str := ⟨⟨[95,95,100,105,99,116,95,95]⟩⟩
noncomputable def z75 : Str := ⟨⟨[95,108,97,119,95,115,99,114,105,112,116]⟩⟩
noncomputable def z76 : Str := ⟨⟨[95,108,97,119,95,107]⟩⟩
noncomputable def z77 : Str := ⟨⟨[95,108,97,119,95,102,111,117,110,100]⟩⟩
noncomputable def z78 : Str := ⟨⟨[95,108,97,119,95,99,101,108,108]⟩⟩
noncomputable def z79 : Str := ⟨⟨[95,108,97,119,95,111,116,104,101,114]⟩⟩
noncomputable def z80 : Str := ⟨⟨[95,108,97,119,95,109,97,110,121]⟩⟩
noncomputable def z81 : Str := ⟨⟨[95,108,97,119,95,108,101,116,116,101,114,115]⟩⟩
noncomputable def z82 : Str := ⟨⟨[95,108,97,119,95,115,116,101,109]⟩⟩
noncomputable def z83 : Str := ⟨⟨[95,108,97,119,95,114,101,115,116]⟩⟩
noncomputable def z84 : Str := ⟨⟨[95,108,97,119,95,115,105,122,101]⟩⟩
noncomputable def z85 : Str := ⟨⟨[95,108,97,119,95,115,112,111,116]⟩⟩
noncomputable def z86 : Str := ⟨⟨[95,108,97,119,95,115,105,103,110]⟩⟩
noncomputable def z87 : Str := ⟨⟨[95,108,97,119,95,98,97,110,107,95,104,101,114,101]⟩⟩
noncomputable def z88 : Str := ⟨⟨[95,108,97,119,95,98,111,111,107,95,104,101,114,101]⟩⟩
noncomputable def z89 : Str := ⟨⟨[95,108,97,119,95,115,97,109,101]⟩⟩
noncomputable def z90 : Str := ⟨⟨[95,108,97,119,95,120]⟩⟩
noncomputable def z91 : Str := ⟨⟨[95,108,97,119,95,121]⟩⟩
noncomputable def z92 : Str := ⟨⟨[95,108,97,119,95,112,114,105,99,101]⟩⟩
noncomputable def z93 : Str := ⟨⟨[95,108,97,119,95,112,97,105,114]⟩⟩
noncomputable def z94 : Str := ⟨⟨[95,108,97,119,95,100,117,101]⟩⟩
noncomputable def z95 : Str := ⟨⟨[95,108,97,119,95,109,111,115,116]⟩⟩
noncomputable def z96 : Str := ⟨⟨[95,108,97,119,95,110,101,97,114,95,104,101,114,101]⟩⟩
noncomputable def z97 : Str := ⟨⟨[95,108,97,119,95,119,97,110,116,101,100]⟩⟩
noncomputable def z98 : Str := ⟨⟨[95,108,97,119,95,115,112,97,110]⟩⟩
noncomputable def z99 : Str := ⟨⟨[95,108,97,119,95,104,97,110,100,101,100]⟩⟩
noncomputable def z100 : Str := ⟨⟨[95,108,97,119,95,97,115,107,101,100]⟩⟩
noncomputable def z101 : Str := ⟨⟨[95,108,97,119,95,116,101,114,109,115]⟩⟩
noncomputable def z102 : Str := ⟨⟨[95,108,97,119,95,116,111,108,100]⟩⟩
noncomputable def z103 : Str := ⟨⟨[95,108,97,119,95,97,103,97,105,110]⟩⟩
noncomputable abbrev y0 : String := PySem.W.SL.s658472552662922059x5
noncomputable abbrev y1 : String := PySem.W.SL.s14018661285674007319x4
noncomputable abbrev y2 : String := PySem.W.SL.s7097527257260152453x26
noncomputable abbrev y3 : String := PySem.W.SL.s7174869446012820540x8
noncomputable abbrev y4 : String := PySem.W.SL.s6070975301684473832x10
noncomputable abbrev y5 : String := PySem.W.SL.s11030030927630378310x26
noncomputable abbrev y6 : String := PySem.W.SL.s10062305145149207511x16
noncomputable abbrev y7 : String := PySem.W.SL.s17162191345867700912x4
noncomputable abbrev y8 : String := PySem.W.SL.s5946037652744460706x9
noncomputable abbrev y9 : String := PySem.W.SL.s4278001404047624695x13
noncomputable abbrev y10 : String := PySem.W.SL.s2742458400755230247x6
noncomputable abbrev y11 : String := PySem.W.SL.s4209523147560561109x18
noncomputable abbrev y12 : String := PySem.W.SL.s14755015743595814543x17
noncomputable abbrev y13 : String := PySem.W.SL.s10220274742760427390x26
noncomputable abbrev y14 : String := PySem.W.SL.s4290257624100764138x5
noncomputable abbrev y15 : String := PySem.W.SL.s4860613602091757760x24
noncomputable abbrev y16 : String := PySem.W.SL.s5856160107412720595x4
noncomputable abbrev y17 : String := PySem.W.SL.s11443829558043349243x14
noncomputable abbrev y18 : String := PySem.W.SL.s6511155373996960695x17
noncomputable abbrev y19 : String := PySem.W.SL.s12411053484034534018x21
noncomputable abbrev R (a : Addr) : Value := .ref a
noncomputable abbrev I (i : Int) : Value := .int i 0
noncomputable abbrev N : Value := .none
noncomputable abbrev V0 : Value := .bool false
noncomputable abbrev V1 : Value := .bool true
noncomputable abbrev U (v : Value) : Option Value := some v
noncomputable abbrev B := BT.node
noncomputable abbrev L := BT.nil
noncomputable abbrev E (P : Params) (x : Str) (t : Tok) (v : Value) : DictEntry := ⟨PyData.keyHash P x, .str x t, v⟩
noncomputable abbrev tu (l : List Value) : Obj := ⟨.type "tuple", none, .seq ⟨l⟩ 0, ⟨[]⟩⟩
noncomputable abbrev fi (l : List Value) : Obj := ⟨.none, none, .fields ⟨l⟩, ⟨[]⟩⟩
noncomputable abbrev cd (n : Str) (t : Nat) (l a f : Int) (r8 : Addr) (b : Bool) (r11 : Addr) (v13 v14 v15 : Value) (t3 : Int) (t4 : Nat) : Obj := ⟨.type y16, none, .fields ⟨[.str n t, .str n (t + 1), .str z11 (t + 2), I l, I a, I 0, I 0, I f, R r8, .bool b, I 181, R r11, N, v13, v14, v15, I t3, I l, .str z11 t4]⟩, ⟨[]⟩⟩
noncomputable def tp (p : Program) (i : Nat) : Stmt := p.main.body.getD i (.Pass ⟨0, 0, 0, 0⟩)
noncomputable abbrev F (n q : Str) (s : Stmt) (dV kV doc pm : Value) (an : Option Addr) (c ct : Value) : Data := .func (fnOf n q (defArgs s) (defBody s) (defScope s) dV kV doc pm an c ct)
noncomputable def b0 (_ : Program) (P : Params) : Obj := PySem.W.boot_o_0 P
noncomputable def b1 (_ : Program) (P : Params) : Obj := PySem.W.boot_o_1 P
noncomputable def b2 (_ : Program) (P : Params) : Obj := PySem.W.boot_o_2 P
noncomputable def b3 (_ : Program) (P : Params) : Obj := PySem.W.boot_o_3 P
noncomputable def b4 (_ : Program) (P : Params) : Obj := PySem.W.boot_o_4 P
noncomputable def b5 (_ : Program) (P : Params) : Obj := PySem.W.boot_o_5 P
noncomputable def b6 (_ : Program) (P : Params) : Obj := PySem.W.boot_o_6 P
noncomputable def b7 (_ : Program) (P : Params) : Obj := PySem.W.boot_o_7 P
noncomputable def b8 (_ : Program) (P : Params) : Obj := PySem.W.boot_o_8 P
noncomputable def b9 (_ : Program) (P : Params) : Obj := PySem.W.boot_o_9 P
noncomputable def b10 (_ : Program) (P : Params) : Obj := PySem.W.boot_o_10 P
noncomputable def a11 (p : Program) (P : Params) : Obj := tu []
noncomputable def a12 (p : Program) (P : Params) : Obj := fi []
noncomputable def a13 (p : Program) (P : Params) : Obj := cd z0 182 1 0 0 11 false 12 N N N 185 186
noncomputable def a14 (p : Program) (P : Params) : Obj := ⟨(.type y0),none,.plain,⟨[U (R 13),U (R 3),U (R 3),none,U (.str z1 164),none,U (R 0)]⟩⟩
noncomputable def o3 (p : Program) (P : Params) : Obj := ⟨(.type y1),none,(.dict ⟨[E P z2 165 (.str z3 385),E P z4 166 N,E P z5 167 N,E P z6 168 (.builtin y2),E P z7 169 N,E P z8 170 (R 6),E P z9 171 (R 4),E P z10 173 (.str z11 172),E P z12 174 N,E P z13 193 (R 21),E P z14 213 (R 31),E P z15 229 (R 44),E P z16 245 (R 56),E P z17 249 (.int 12 248),E P z18 256 (R 65),E P z19 262 (R 70),E P z20 273 (R 77),E P z21 279 (R 82),E P z22 283 (.int 999999 282),E P z23 285 (.int 60 284),E P z24 287 (.int 100 286),E P z25 296 (R 89),E P z26 306 (R 96),E P z27 315 (R 103),E P z28 326 (R 110),E P z29 384 (R 142),E P z30 394 (R 153),E P z31 401 (R 160),E P z32 418 (R 167),E P z33 432 (R 174),E P z34 446 (R 181),E P z35 454 (R 188),E P z36 463 (R 195),E P z37 469 (R 200),E P z38 490 (R 207)]⟩ 35),⟨[]⟩⟩
noncomputable def o12 (p : Program) (P : Params) : Obj := fi [(I 1),(I 0),(R 20),(I 5),(I 0),(R 27),(I 7),(I 0),(R 40),(I 9),(I 0),(R 52),(I 13),(I 0),(R 64),(I 15),(I 0),(R 69),(I 20),(I 0),(R 76),(I 22),(I 0),(R 81),(I 37),(I 0),(R 88),(I 39),(I 0),(R 95),(I 42),(I 0),(R 102),(I 49),(I 0),(R 109),(I 59),(I 0),(R 116),(I 86),(I 0),(R 152),(I 90),(I 0),(R 159),(I 92),(I 0),(R 166),(I 109),(I 0),(R 173),(I 116),(I 0),(R 180),(I 130),(I 0),(R 187),(I 139),(I 0),(R 194),(I 146),(I 0),(R 199),(I 160),(I 0),(R 206)]
noncomputable def o15 (p : Program) (P : Params) : Obj := tu []
noncomputable def o16 (p : Program) (P : Params) : Obj := fi []
noncomputable def o17 (p : Program) (P : Params) : Obj := tu [(.str z39 190)]
noncomputable def o18 (p : Program) (P : Params) : Obj := tu []
noncomputable def o19 (p : Program) (P : Params) : Obj := ⟨N,none,(.func ⟨z13,z13,defArgs (tp p 0),.stmts (defBody (tp p 0)),defScope (tp p 0),0,[],N,N,N,N,none,N,N,0⟩),⟨[]⟩⟩
noncomputable def o20 (p : Program) (P : Params) : Obj := cd z13 187 1 1 3 15 true 16 (R 17) (R 18) (R 19) 191 192
noncomputable def o21 (p : Program) (P : Params) : Obj := ⟨(.type y3),none,(F z13 z13 (tp p 0) N N N (.str z1 164) none (R 20) N),⟨[]⟩⟩
noncomputable def o22 (p : Program) (P : Params) : Obj := tu [(.type y4)]
noncomputable def o23 (p : Program) (P : Params) : Obj := ⟨(.type y5),none,(.fields ⟨[(.builtin y6),(.type y7)]⟩),⟨[]⟩⟩
noncomputable def o24 (p : Program) (P : Params) : Obj := ⟨(.type y1),none,(.dict ⟨[E P z40 203 (.str z41 194),E P z42 205 (.str z14 204),E P z43 207 (.int 5 206),E P z44 208 (R 29)]⟩ 4),⟨[]⟩⟩
noncomputable def o25 (p : Program) (P : Params) : Obj := tu []
noncomputable def o26 (p : Program) (P : Params) : Obj := fi []
noncomputable def o27 (p : Program) (P : Params) : Obj := cd z14 198 5 0 0 25 false 26 N N N 201 202
noncomputable def o28 (p : Program) (P : Params) : Obj := ⟨(.type y0),none,.plain,⟨[U (R 27),U (R 3),U (R 24),none,U (.str z41 194),none,U (R 0)]⟩⟩
noncomputable def o29 (p : Program) (P : Params) : Obj := tu []
noncomputable def o30 (p : Program) (P : Params) : Obj := ⟨(.type y1),none,(.dict ⟨[E P z40 203 (.str z41 194),E P z43 207 (.int 5 206),E P z44 208 (R 29),E P z45 210 (R 32),E P z4 211 N]⟩ 3),⟨[]⟩⟩
noncomputable def o31 (p : Program) (P : Params) : Obj := ⟨(.type y7),none,(.cls ⟨z14,[(.type y4)],[(R 31),(.type y4),(.type y8),(.type y9),(.type y10)],30,z14,true,[],[(R 44),(R 56)],false,none,false⟩),⟨[U (R 22),none,U (.str z14 196),U (.str z14 204),U (.builtin y11),U V1]⟩⟩
noncomputable def o32 (p : Program) (P : Params) : Obj := ⟨(.type y12),none,(.fields ⟨[(.str z45 209),(R 31),(.builtin y13),N]⟩),⟨[]⟩⟩
noncomputable def o33 (p : Program) (P : Params) : Obj := ⟨(.type y14),none,(.fields ⟨[(R 31),(R 31),(R 31)]⟩),⟨[]⟩⟩
noncomputable def o34 (p : Program) (P : Params) : Obj := ⟨(.type y5),none,(.fields ⟨[(.builtin y15),(R 31)]⟩),⟨[]⟩⟩
noncomputable def o35 (p : Program) (P : Params) : Obj := tu [(R 31)]
noncomputable def o36 (p : Program) (P : Params) : Obj := ⟨(.type y5),none,(.fields ⟨[(.builtin y6),(.type y7)]⟩),⟨[]⟩⟩
noncomputable def o37 (p : Program) (P : Params) : Obj := ⟨(.type y1),none,(.dict ⟨[E P z40 221 (.str z41 194),E P z42 223 (.str z15 222),E P z43 225 (.int 7 224),E P z44 226 (R 42)]⟩ 4),⟨[]⟩⟩
noncomputable def o38 (p : Program) (P : Params) : Obj := tu []
noncomputable def o39 (p : Program) (P : Params) : Obj := fi []
noncomputable def o40 (p : Program) (P : Params) : Obj := cd z15 216 7 0 0 38 false 39 N N N 219 220
noncomputable def o41 (p : Program) (P : Params) : Obj := ⟨(.type y0),none,.plain,⟨[U (R 40),U (R 3),U (R 37),none,U (.str z41 194),none,U (R 0)]⟩⟩
noncomputable def o42 (p : Program) (P : Params) : Obj := tu []
noncomputable def o43 (p : Program) (P : Params) : Obj := ⟨(.type y1),none,(.dict ⟨[E P z40 221 (.str z41 194),E P z43 225 (.int 7 224),E P z44 226 (R 42),E P z4 227 N]⟩ 2),⟨[]⟩⟩
noncomputable def o44 (p : Program) (P : Params) : Obj := ⟨(.type y7),none,(.cls ⟨z15,[(R 31)],[(R 44),(R 31),(.type y4),(.type y8),(.type y9),(.type y10)],43,z15,true,[],[],false,none,false⟩),⟨[U (R 35),none,U (.str z15 214),U (.str z15 222),U (.builtin y11),U V1]⟩⟩
noncomputable def o45 (p : Program) (P : Params) : Obj := ⟨(.type y14),none,(.fields ⟨[(R 44),(R 44),(R 44)]⟩),⟨[]⟩⟩
noncomputable def o46 (p : Program) (P : Params) : Obj := ⟨(.type y5),none,(.fields ⟨[(.builtin y15),(R 44)]⟩),⟨[]⟩⟩
noncomputable def o47 (p : Program) (P : Params) : Obj := tu [(R 31)]
noncomputable def o48 (p : Program) (P : Params) : Obj := ⟨(.type y5),none,(.fields ⟨[(.builtin y6),(.type y7)]⟩),⟨[]⟩⟩
noncomputable def o49 (p : Program) (P : Params) : Obj := ⟨(.type y1),none,(.dict ⟨[E P z40 237 (.str z41 194),E P z42 239 (.str z16 238),E P z43 241 (.int 9 240),E P z44 242 (R 54)]⟩ 4),⟨[]⟩⟩
noncomputable def o50 (p : Program) (P : Params) : Obj := tu []
noncomputable def o51 (p : Program) (P : Params) : Obj := fi []
noncomputable def o52 (p : Program) (P : Params) : Obj := cd z16 232 9 0 0 50 false 51 N N N 235 236
noncomputable def o53 (p : Program) (P : Params) : Obj := ⟨(.type y0),none,.plain,⟨[U (R 52),U (R 3),U (R 49),none,U (.str z41 194),none,U (R 0)]⟩⟩
noncomputable def o54 (p : Program) (P : Params) : Obj := tu []
noncomputable def o55 (p : Program) (P : Params) : Obj := ⟨(.type y1),none,(.dict ⟨[E P z40 237 (.str z41 194),E P z43 241 (.int 9 240),E P z44 242 (R 54),E P z4 243 N]⟩ 2),⟨[]⟩⟩
noncomputable def o56 (p : Program) (P : Params) : Obj := ⟨(.type y7),none,(.cls ⟨z16,[(R 31)],[(R 56),(R 31),(.type y4),(.type y8),(.type y9),(.type y10)],55,z16,true,[],[],false,none,false⟩),⟨[U (R 47),none,U (.str z16 230),U (.str z16 238),U (.builtin y11),U V1]⟩⟩
noncomputable def o57 (p : Program) (P : Params) : Obj := ⟨(.type y14),none,(.fields ⟨[(R 56),(R 56),(R 56)]⟩),⟨[]⟩⟩
noncomputable def o58 (p : Program) (P : Params) : Obj := ⟨(.type y5),none,(.fields ⟨[(.builtin y15),(R 56)]⟩),⟨[]⟩⟩
noncomputable def o59 (p : Program) (P : Params) : Obj := tu []
noncomputable def o60 (p : Program) (P : Params) : Obj := fi []
noncomputable def o61 (p : Program) (P : Params) : Obj := tu [(.str z46 253)]
noncomputable def o62 (p : Program) (P : Params) : Obj := tu []
noncomputable def o63 (p : Program) (P : Params) : Obj := ⟨N,none,(.func ⟨z18,z18,defArgs (tp p 7),.stmts (defBody (tp p 7)),defScope (tp p 7),0,[],N,N,N,N,none,N,N,0⟩),⟨[]⟩⟩
noncomputable def o64 (p : Program) (P : Params) : Obj := cd z18 250 13 1 3 59 true 60 (R 61) (R 62) (R 63) 254 255
noncomputable def o65 (p : Program) (P : Params) : Obj := ⟨(.type y3),none,(F z18 z18 (tp p 7) N N N (.str z47 246) none (R 64) N),⟨[]⟩⟩
noncomputable def o66 (p : Program) (P : Params) : Obj := tu []
noncomputable def o67 (p : Program) (P : Params) : Obj := fi []
noncomputable def o68 (p : Program) (P : Params) : Obj := ⟨N,none,(.func ⟨z19,z19,defArgs (tp p 8),.stmts (defBody (tp p 8)),defScope (tp p 8),0,[],N,N,N,N,none,N,N,0⟩),⟨[]⟩⟩
noncomputable def o69 (p : Program) (P : Params) : Obj := cd z19 257 15 1 3 66 true 67 N N (R 68) 260 261
noncomputable def o70 (p : Program) (P : Params) : Obj := ⟨(.type y3),none,(F z19 z19 (tp p 8) N N N (.str z47 246) none (R 69) N),⟨[]⟩⟩
noncomputable def o71 (p : Program) (P : Params) : Obj := tu []
noncomputable def o72 (p : Program) (P : Params) : Obj := fi []
noncomputable def o73 (p : Program) (P : Params) : Obj := tu [(.str z48 268),(.str z49 269),(.str z50 270)]
noncomputable def o74 (p : Program) (P : Params) : Obj := tu []
noncomputable def o75 (p : Program) (P : Params) : Obj := ⟨N,none,(.func ⟨z20,z20,defArgs (tp p 10),.stmts (defBody (tp p 10)),defScope (tp p 10),0,[],N,N,N,N,none,N,N,0⟩),⟨[]⟩⟩
noncomputable def o76 (p : Program) (P : Params) : Obj := cd z20 265 20 3 3 71 true 72 (R 73) (R 74) (R 75) 271 272
noncomputable def o77 (p : Program) (P : Params) : Obj := ⟨(.type y3),none,(F z20 z20 (tp p 10) N N N (.str z51 263) none (R 76) N),⟨[]⟩⟩
noncomputable def o78 (p : Program) (P : Params) : Obj := tu []
noncomputable def o79 (p : Program) (P : Params) : Obj := fi []
noncomputable def o80 (p : Program) (P : Params) : Obj := ⟨N,none,(.func ⟨z21,z21,defArgs (tp p 11),.stmts (defBody (tp p 11)),defScope (tp p 11),0,[],N,N,N,N,none,N,N,0⟩),⟨[]⟩⟩
noncomputable def o81 (p : Program) (P : Params) : Obj := cd z21 274 22 4 3 78 true 79 N N (R 80) 277 278
noncomputable def o82 (p : Program) (P : Params) : Obj := ⟨(.type y3),none,(F z21 z21 (tp p 11) N N N (.str z51 263) none (R 81) N),⟨[]⟩⟩
noncomputable def o83 (p : Program) (P : Params) : Obj := tu []
noncomputable def o84 (p : Program) (P : Params) : Obj := fi []
noncomputable def o85 (p : Program) (P : Params) : Obj := tu [(.str z52 291),(.str z53 292),(.str z54 293)]
noncomputable def o86 (p : Program) (P : Params) : Obj := tu []
noncomputable def o87 (p : Program) (P : Params) : Obj := ⟨N,none,(.func ⟨z25,z25,defArgs (tp p 16),.stmts (defBody (tp p 16)),defScope (tp p 16),0,[],N,N,N,N,none,N,N,0⟩),⟨[]⟩⟩
noncomputable def o88 (p : Program) (P : Params) : Obj := cd z25 288 37 3 3 83 true 84 (R 85) (R 86) (R 87) 294 295
noncomputable def o89 (p : Program) (P : Params) : Obj := ⟨(.type y3),none,(F z25 z25 (tp p 16) N N N (.str z55 280) none (R 88) N),⟨[]⟩⟩
noncomputable def o90 (p : Program) (P : Params) : Obj := tu []
noncomputable def o91 (p : Program) (P : Params) : Obj := fi []
noncomputable def o92 (p : Program) (P : Params) : Obj := tu [(.str z56 300),(.str z53 301),(.str z52 302),(.str z54 303)]
noncomputable def o93 (p : Program) (P : Params) : Obj := tu []
noncomputable def o94 (p : Program) (P : Params) : Obj := ⟨N,none,(.func ⟨z26,z26,defArgs (tp p 17),.stmts (defBody (tp p 17)),defScope (tp p 17),0,[],N,N,N,N,none,N,N,0⟩),⟨[]⟩⟩
noncomputable def o95 (p : Program) (P : Params) : Obj := cd z26 297 39 4 3 90 true 91 (R 92) (R 93) (R 94) 304 305
noncomputable def o96 (p : Program) (P : Params) : Obj := ⟨(.type y3),none,(F z26 z26 (tp p 17) N N N (.str z55 280) none (R 95) N),⟨[]⟩⟩
noncomputable def o97 (p : Program) (P : Params) : Obj := tu []
noncomputable def o98 (p : Program) (P : Params) : Obj := fi []
noncomputable def o99 (p : Program) (P : Params) : Obj := tu [(.str z57 310),(.str z58 311),(.str z59 312)]
noncomputable def o100 (p : Program) (P : Params) : Obj := tu []
noncomputable def o101 (p : Program) (P : Params) : Obj := ⟨N,none,(.func ⟨z27,z27,defArgs (tp p 18),.stmts (defBody (tp p 18)),defScope (tp p 18),0,[],N,N,N,N,none,N,N,0⟩),⟨[]⟩⟩
noncomputable def o102 (p : Program) (P : Params) : Obj := cd z27 307 42 3 3 97 true 98 (R 99) (R 100) (R 101) 313 314
noncomputable def o103 (p : Program) (P : Params) : Obj := ⟨(.type y3),none,(F z27 z27 (tp p 18) N N N (.str z55 280) none (R 102) N),⟨[]⟩⟩
noncomputable def o104 (p : Program) (P : Params) : Obj := tu []
noncomputable def o105 (p : Program) (P : Params) : Obj := fi []
noncomputable def o106 (p : Program) (P : Params) : Obj := tu [(.str z60 319),(.str z61 320),(.str z57 321),(.str z58 322),(.str z59 323)]
noncomputable def o107 (p : Program) (P : Params) : Obj := tu []
noncomputable def o108 (p : Program) (P : Params) : Obj := ⟨N,none,(.func ⟨z28,z28,defArgs (tp p 19),.stmts (defBody (tp p 19)),defScope (tp p 19),0,[],N,N,N,N,none,N,N,0⟩),⟨[]⟩⟩
noncomputable def o109 (p : Program) (P : Params) : Obj := cd z28 316 49 1 3 104 true 105 (R 106) (R 107) (R 108) 324 325
noncomputable def o110 (p : Program) (P : Params) : Obj := ⟨(.type y3),none,(F z28 z28 (tp p 19) N N N (.str z55 280) none (R 109) N),⟨[]⟩⟩
noncomputable def o111 (p : Program) (P : Params) : Obj := tu []
noncomputable def o112 (p : Program) (P : Params) : Obj := ⟨(.type y5),none,(.fields ⟨[(.builtin y6),(.type y7)]⟩),⟨[]⟩⟩
noncomputable def o113 (p : Program) (P : Params) : Obj := ⟨(.type y1),none,(.dict ⟨[E P z40 334 (.str z55 280),E P z42 336 (.str z29 335),E P z43 338 (.int 59 337),E P z62 352 (R 125),E P z63 362 (R 132),E P z64 369 (R 139),E P z44 377 (R 140)]⟩ 7),⟨[]⟩⟩
noncomputable def o114 (p : Program) (P : Params) : Obj := tu []
noncomputable def o115 (p : Program) (P : Params) : Obj := fi [(I 61),(I 4),(R 124),(I 75),(I 4),(R 131),(I 83),(I 4),(R 138)]
noncomputable def o116 (p : Program) (P : Params) : Obj := cd z29 329 59 0 0 114 false 115 N N N 332 333
noncomputable def o117 (p : Program) (P : Params) : Obj := ⟨(.type y0),none,.plain,⟨[U (R 116),U (R 3),U (R 113),none,U (.str z55 280),none,U (R 0)]⟩⟩
noncomputable def o118 (p : Program) (P : Params) : Obj := tu [(.int 50 339),N]
noncomputable def o119 (p : Program) (P : Params) : Obj := tu []
noncomputable def o120 (p : Program) (P : Params) : Obj := fi []
noncomputable def o121 (p : Program) (P : Params) : Obj := tu [(.str z65 343),(.str z66 344),(.str z67 345),(.str z68 346),(.str z69 347),(.str z70 348),(.str z60 349)]
noncomputable def o122 (p : Program) (P : Params) : Obj := tu []
noncomputable def o123 (p : Program) (P : Params) : Obj := ⟨N,none,(.func ⟨z62,z71,defArgs (inClass (tp p 20) 0),.stmts (defBody (inClass (tp p 20) 0)),defScope (inClass (tp p 20) 0),0,[],N,N,N,N,none,N,N,0⟩),⟨[]⟩⟩
noncomputable def o124 (p : Program) (P : Params) : Obj := ⟨(.type y16),none,(.fields ⟨[(.str z62 340),(.str z71 341),(.str z11 342),(I 61),(I 7),(I 0),(I 0),(I 3),(R 119),V1,(I 181),(R 120),N,(R 121),(R 122),(R 123),(I 350),(I 61),(.str z11 351)]⟩),⟨[]⟩⟩
noncomputable def o125 (p : Program) (P : Params) : Obj := ⟨(.type y3),none,(F z62 z71 (inClass (tp p 20) 0) (R 118) N N (.str z55 280) none (R 124) N),⟨[]⟩⟩
noncomputable def o126 (p : Program) (P : Params) : Obj := tu []
noncomputable def o127 (p : Program) (P : Params) : Obj := fi []
noncomputable def o128 (p : Program) (P : Params) : Obj := tu [(.str z65 356),(.str z57 357),(.str z58 358),(.str z59 359)]
noncomputable def o129 (p : Program) (P : Params) : Obj := tu []
noncomputable def o130 (p : Program) (P : Params) : Obj := ⟨N,none,(.func ⟨z63,z72,defArgs (inClass (tp p 20) 1),.stmts (defBody (inClass (tp p 20) 1)),defScope (inClass (tp p 20) 1),0,[],N,N,N,N,none,N,N,0⟩),⟨[]⟩⟩
noncomputable def o131 (p : Program) (P : Params) : Obj := ⟨(.type y16),none,(.fields ⟨[(.str z63 353),(.str z72 354),(.str z11 355),(I 75),(I 3),(I 0),(I 0),(I 3),(R 126),V1,(I 181),(R 127),N,(R 128),(R 129),(R 130),(I 360),(I 75),(.str z11 361)]⟩),⟨[]⟩⟩
noncomputable def o132 (p : Program) (P : Params) : Obj := ⟨(.type y3),none,(F z63 z72 (inClass (tp p 20) 1) N N N (.str z55 280) none (R 131) N),⟨[]⟩⟩
noncomputable def o133 (p : Program) (P : Params) : Obj := tu []
noncomputable def o134 (p : Program) (P : Params) : Obj := fi []
noncomputable def o135 (p : Program) (P : Params) : Obj := tu [(.str z65 366)]
noncomputable def o136 (p : Program) (P : Params) : Obj := tu []
noncomputable def o137 (p : Program) (P : Params) : Obj := ⟨N,none,(.func ⟨z64,z73,defArgs (inClass (tp p 20) 2),.stmts (defBody (inClass (tp p 20) 2)),defScope (inClass (tp p 20) 2),0,[],N,N,N,N,none,N,N,0⟩),⟨[]⟩⟩
noncomputable def o138 (p : Program) (P : Params) : Obj := ⟨(.type y16),none,(.fields ⟨[(.str z64 363),(.str z73 364),(.str z11 365),(I 83),(I 1),(I 0),(I 0),(I 3),(R 133),V1,(I 181),(R 134),N,(R 135),(R 136),(R 137),(I 367),(I 83),(.str z11 368)]⟩),⟨[]⟩⟩
noncomputable def o139 (p : Program) (P : Params) : Obj := ⟨(.type y3),none,(F z64 z73 (inClass (tp p 20) 2) N N N (.str z55 280) none (R 138) N),⟨[]⟩⟩
noncomputable def o140 (p : Program) (P : Params) : Obj := tu [(.str z68 370),(.str z69 371),(.str z60 372),(.str z67 373),(.str z70 374),(.str z61 375),(.str z66 376)]
noncomputable def o141 (p : Program) (P : Params) : Obj := ⟨(.type y1),none,(.dict ⟨[E P z40 334 (.str z55 280),E P z43 338 (.int 59 337),E P z62 352 (R 125),E P z63 362 (R 132),E P z64 369 (R 139),E P z44 377 (R 140),E P z74 379 (R 143),E P z45 381 (R 144),E P z4 382 N]⟩ 4),⟨[]⟩⟩
noncomputable def o142 (p : Program) (P : Params) : Obj := ⟨(.type y7),none,(.cls ⟨z29,[(.type y10)],[(R 142),(.type y10)],141,z29,true,[],[],false,none,false⟩),⟨[none,none,U (.str z29 327),U (.str z29 335),U (.builtin y17),U V1]⟩⟩
noncomputable def o143 (p : Program) (P : Params) : Obj := ⟨(.type y12),none,(.fields ⟨[(.str z74 378),(R 142),(.builtin y18),(.builtin y19)]⟩),⟨[]⟩⟩
noncomputable def o144 (p : Program) (P : Params) : Obj := ⟨(.type y12),none,(.fields ⟨[(.str z45 380),(R 142),(.builtin y13),N]⟩),⟨[]⟩⟩
noncomputable def o145 (p : Program) (P : Params) : Obj := ⟨(.type y14),none,(.fields ⟨[(R 142),(R 142),(R 142)]⟩),⟨[]⟩⟩
noncomputable def o146 (p : Program) (P : Params) : Obj := ⟨(.type y5),none,(.fields ⟨[(.builtin y15),(R 142)]⟩),⟨[]⟩⟩
noncomputable def o147 (p : Program) (P : Params) : Obj := tu []
noncomputable def o148 (p : Program) (P : Params) : Obj := fi []
noncomputable def o149 (p : Program) (P : Params) : Obj := tu [(.str z75 390),(.str z76 391)]
noncomputable def o150 (p : Program) (P : Params) : Obj := tu []
noncomputable def o151 (p : Program) (P : Params) : Obj := ⟨N,none,(.func ⟨z30,z30,defArgs (tp p 22),.stmts (defBody (tp p 22)),defScope (tp p 22),0,[],N,N,N,N,none,N,N,0⟩),⟨[]⟩⟩
noncomputable def o152 (p : Program) (P : Params) : Obj := cd z30 387 86 2 3 147 true 148 (R 149) (R 150) (R 151) 392 393
noncomputable def o153 (p : Program) (P : Params) : Obj := ⟨(.type y3),none,(F z30 z30 (tp p 22) N N N (.str z3 385) none (R 152) N),⟨[]⟩⟩
noncomputable def o154 (p : Program) (P : Params) : Obj := tu []
noncomputable def o155 (p : Program) (P : Params) : Obj := fi []
noncomputable def o156 (p : Program) (P : Params) : Obj := tu [(.str z77 398)]
noncomputable def o157 (p : Program) (P : Params) : Obj := tu []
noncomputable def o158 (p : Program) (P : Params) : Obj := ⟨N,none,(.func ⟨z31,z31,defArgs (tp p 23),.stmts (defBody (tp p 23)),defScope (tp p 23),0,[],N,N,N,N,none,N,N,0⟩),⟨[]⟩⟩
noncomputable def o159 (p : Program) (P : Params) : Obj := cd z31 395 90 1 3 154 true 155 (R 156) (R 157) (R 158) 399 400
noncomputable def o160 (p : Program) (P : Params) : Obj := ⟨(.type y3),none,(F z31 z31 (tp p 23) N N N (.str z3 385) none (R 159) N),⟨[]⟩⟩
noncomputable def o161 (p : Program) (P : Params) : Obj := tu []
noncomputable def o162 (p : Program) (P : Params) : Obj := fi []
noncomputable def o163 (p : Program) (P : Params) : Obj := tu [(.str z78 405),(.str z79 406),(.str z80 407),(.str z81 408),(.str z82 409),(.str z83 410),(.str z76 411),(.str z84 412),(.str z77 413),(.str z85 414),(.str z86 415)]
noncomputable def o164 (p : Program) (P : Params) : Obj := tu []
noncomputable def o165 (p : Program) (P : Params) : Obj := ⟨N,none,(.func ⟨z32,z32,defArgs (tp p 24),.stmts (defBody (tp p 24)),defScope (tp p 24),0,[],N,N,N,N,none,N,N,0⟩),⟨[]⟩⟩
noncomputable def o166 (p : Program) (P : Params) : Obj := cd z32 402 92 3 3 161 true 162 (R 163) (R 164) (R 165) 416 417
noncomputable def o167 (p : Program) (P : Params) : Obj := ⟨(.type y3),none,(F z32 z32 (tp p 24) N N N (.str z3 385) none (R 166) N),⟨[]⟩⟩
noncomputable def o168 (p : Program) (P : Params) : Obj := tu []
noncomputable def o169 (p : Program) (P : Params) : Obj := fi []
noncomputable def o170 (p : Program) (P : Params) : Obj := tu [(.str z75 422),(.str z78 423),(.str z85 424),(.str z80 425),(.str z87 426),(.str z88 427),(.str z83 428),(.str z76 429)]
noncomputable def o171 (p : Program) (P : Params) : Obj := tu []
noncomputable def o172 (p : Program) (P : Params) : Obj := ⟨N,none,(.func ⟨z33,z33,defArgs (tp p 25),.stmts (defBody (tp p 25)),defScope (tp p 25),0,[],N,N,N,N,none,N,N,0⟩),⟨[]⟩⟩
noncomputable def o173 (p : Program) (P : Params) : Obj := cd z33 419 109 5 3 168 true 169 (R 170) (R 171) (R 172) 430 431
noncomputable def o174 (p : Program) (P : Params) : Obj := ⟨(.type y3),none,(F z33 z33 (tp p 25) N N N (.str z3 385) none (R 173) N),⟨[]⟩⟩
noncomputable def o175 (p : Program) (P : Params) : Obj := tu []
noncomputable def o176 (p : Program) (P : Params) : Obj := fi []
noncomputable def o177 (p : Program) (P : Params) : Obj := tu [(.str z78 436),(.str z87 437),(.str z89 438),(.str z77 439),(.str z83 440),(.str z90 441),(.str z91 442),(.str z92 443)]
noncomputable def o178 (p : Program) (P : Params) : Obj := tu []
noncomputable def o179 (p : Program) (P : Params) : Obj := ⟨N,none,(.func ⟨z34,z34,defArgs (tp p 26),.stmts (defBody (tp p 26)),defScope (tp p 26),0,[],N,N,N,N,none,N,N,0⟩),⟨[]⟩⟩
noncomputable def o180 (p : Program) (P : Params) : Obj := cd z34 433 116 3 3 175 true 176 (R 177) (R 178) (R 179) 444 445
noncomputable def o181 (p : Program) (P : Params) : Obj := ⟨(.type y3),none,(F z34 z34 (tp p 26) N N N (.str z3 385) none (R 180) N),⟨[]⟩⟩
noncomputable def o182 (p : Program) (P : Params) : Obj := tu []
noncomputable def o183 (p : Program) (P : Params) : Obj := fi []
noncomputable def o184 (p : Program) (P : Params) : Obj := tu [(.str z77 450),(.str z93 451)]
noncomputable def o185 (p : Program) (P : Params) : Obj := tu []
noncomputable def o186 (p : Program) (P : Params) : Obj := ⟨N,none,(.func ⟨z35,z35,defArgs (tp p 27),.stmts (defBody (tp p 27)),defScope (tp p 27),0,[],N,N,N,N,none,N,N,0⟩),⟨[]⟩⟩
noncomputable def o187 (p : Program) (P : Params) : Obj := cd z35 447 130 1 3 182 true 183 (R 184) (R 185) (R 186) 452 453
noncomputable def o188 (p : Program) (P : Params) : Obj := ⟨(.type y3),none,(F z35 z35 (tp p 27) N N N (.str z3 385) none (R 187) N),⟨[]⟩⟩
noncomputable def o189 (p : Program) (P : Params) : Obj := tu []
noncomputable def o190 (p : Program) (P : Params) : Obj := fi []
noncomputable def o191 (p : Program) (P : Params) : Obj := tu [(.str z77 458),(.str z94 459),(.str z76 460)]
noncomputable def o192 (p : Program) (P : Params) : Obj := tu []
noncomputable def o193 (p : Program) (P : Params) : Obj := ⟨N,none,(.func ⟨z36,z36,defArgs (tp p 28),.stmts (defBody (tp p 28)),defScope (tp p 28),0,[],N,N,N,N,none,N,N,0⟩),⟨[]⟩⟩
noncomputable def o194 (p : Program) (P : Params) : Obj := cd z36 455 139 2 3 189 true 190 (R 191) (R 192) (R 193) 461 462
noncomputable def o195 (p : Program) (P : Params) : Obj := ⟨(.type y3),none,(F z36 z36 (tp p 28) N N N (.str z3 385) none (R 194) N),⟨[]⟩⟩
noncomputable def o196 (p : Program) (P : Params) : Obj := tu []
noncomputable def o197 (p : Program) (P : Params) : Obj := fi []
noncomputable def o198 (p : Program) (P : Params) : Obj := ⟨N,none,(.func ⟨z37,z37,defArgs (tp p 29),.stmts (defBody (tp p 29)),defScope (tp p 29),0,[],N,N,N,N,none,N,N,0⟩),⟨[]⟩⟩
noncomputable def o199 (p : Program) (P : Params) : Obj := cd z37 464 146 4 3 196 true 197 N N (R 198) 467 468
noncomputable def o200 (p : Program) (P : Params) : Obj := ⟨(.type y3),none,(F z37 z37 (tp p 29) N N N (.str z3 385) none (R 199) N),⟨[]⟩⟩
noncomputable def o201 (p : Program) (P : Params) : Obj := tu []
noncomputable def o202 (p : Program) (P : Params) : Obj := fi []
noncomputable def o203 (p : Program) (P : Params) : Obj := tu [(.str z75 473),(.str z87 474),(.str z95 475),(.str z88 476),(.str z76 477),(.str z96 478),(.str z85 479),(.str z97 480),(.str z98 481),(.str z94 482),(.str z99 483),(.str z100 484),(.str z101 485),(.str z102 486),(.str z103 487)]
noncomputable def o204 (p : Program) (P : Params) : Obj := tu []
noncomputable def o205 (p : Program) (P : Params) : Obj := ⟨N,none,(.func ⟨z38,z38,defArgs (tp p 30),.stmts (defBody (tp p 30)),defScope (tp p 30),0,[],N,N,N,N,none,N,N,0⟩),⟨[]⟩⟩
noncomputable def o206 (p : Program) (P : Params) : Obj := cd z38 470 160 1 3 201 true 202 (R 203) (R 204) (R 205) 488 489
noncomputable def o207 (p : Program) (P : Params) : Obj := ⟨(.type y3),none,(F z38 z38 (tp p 30) N N N (.str z3 385) none (R 206) N),⟨[]⟩⟩
noncomputable def La (p : Program) (P : Params) : List Obj := [b0 p P,b1 p P,b2 p P,b3 p P,b4 p P,b5 p P,b6 p P,b7 p P,b8 p P,b9 p P,b10 p P,a11 p P,a12 p P,a13 p P,a14 p P]
noncomputable def Lf (p : Program) (P : Params) : List Obj := [b0 p P,b1 p P,b2 p P,o3 p P,b4 p P,b5 p P,b6 p P,b7 p P,b8 p P,b9 p P,b10 p P,a11 p P,o12 p P,a13 p P,a14 p P,o15 p P,o16 p P,o17 p P,o18 p P,o19 p P,o20 p P,o21 p P,o22 p P,o23 p P,o24 p P,o25 p P,o26 p P,o27 p P,o28 p P,o29 p P,o30 p P,o31 p P,o32 p P,o33 p P,o34 p P,o35 p P,o36 p P,o37 p P,o38 p P,o39 p P,o40 p P,o41 p P,o42 p P,o43 p P,o44 p P,o45 p P,o46 p P,o47 p P,o48 p P,o49 p P,o50 p P,o51 p P,o52 p P,o53 p P,o54 p P,o55 p P,o56 p P,o57 p P,o58 p P,o59 p P,o60 p P,o61 p P,o62 p P,o63 p P,o64 p P,o65 p P,o66 p P,o67 p P,o68 p P,o69 p P,o70 p P,o71 p P,o72 p P,o73 p P,o74 p P,o75 p P,o76 p P,o77 p P,o78 p P,o79 p P,o80 p P,o81 p P,o82 p P,o83 p P,o84 p P,o85 p P,o86 p P,o87 p P,o88 p P,o89 p P,o90 p P,o91 p P,o92 p P,o93 p P,o94 p P,o95 p P,o96 p P,o97 p P,o98 p P,o99 p P,o100 p P,o101 p P,o102 p P,o103 p P,o104 p P,o105 p P,o106 p P,o107 p P,o108 p P,o109 p P,o110 p P,o111 p P,o112 p P,o113 p P,o114 p P,o115 p P,o116 p P,o117 p P,o118 p P,o119 p P,o120 p P,o121 p P,o122 p P,o123 p P,o124 p P,o125 p P,o126 p P,o127 p P,o128 p P,o129 p P,o130 p P,o131 p P,o132 p P,o133 p P,o134 p P,o135 p P,o136 p P,o137 p P,o138 p P,o139 p P,o140 p P,o141 p P,o142 p P,o143 p P,o144 p P,o145 p P,o146 p P,o147 p P,o148 p P,o149 p P,o150 p P,o151 p P,o152 p P,o153 p P,o154 p P,o155 p P,o156 p P,o157 p P,o158 p P,o159 p P,o160 p P,o161 p P,o162 p P,o163 p P,o164 p P,o165 p P,o166 p P,o167 p P,o168 p P,o169 p P,o170 p P,o171 p P,o172 p P,o173 p P,o174 p P,o175 p P,o176 p P,o177 p P,o178 p P,o179 p P,o180 p P,o181 p P,o182 p P,o183 p P,o184 p P,o185 p P,o186 p P,o187 p P,o188 p P,o189 p P,o190 p P,o191 p P,o192 p P,o193 p P,o194 p P,o195 p P,o196 p P,o197 p P,o198 p P,o199 p P,o200 p P,o201 p P,o202 p P,o203 p P,o204 p P,o205 p P,o206 p P,o207 p P]
noncomputable def Ta (p : Program) (P : Params) : BT := (B (b0 p P) (B (b1 p P) (B (b3 p P) (B (b7 p P) L L) (B (a11 p P) L L)) (B (b5 p P) (B (b9 p P) L L) (B (a13 p P) L L))) (B (b2 p P) (B (b4 p P) (B (b8 p P) L L) (B (a12 p P) L L)) (B (b6 p P) (B (b10 p P) L L) (B (a14 p P) L L))))
noncomputable def Tf (p : Program) (P : Params) : BT := (B (b0 p P) (B (b1 p P) (B (o3 p P) (B (b7 p P) (B (o15 p P) (B (o31 p P) (B (o63 p P) (B (o127 p P) L L) (B (o191 p P) L L)) (B (o95 p P) (B (o159 p P) L L) L)) (B (o47 p P) (B (o79 p P) (B (o143 p P) L L) (B (o207 p P) L L)) (B (o111 p P) (B (o175 p P) L L) L))) (B (o23 p P) (B (o39 p P) (B (o71 p P) (B (o135 p P) L L) (B (o199 p P) L L)) (B (o103 p P) (B (o167 p P) L L) L)) (B (o55 p P) (B (o87 p P) (B (o151 p P) L L) L) (B (o119 p P) (B (o183 p P) L L) L)))) (B (a11 p P) (B (o19 p P) (B (o35 p P) (B (o67 p P) (B (o131 p P) L L) (B (o195 p P) L L)) (B (o99 p P) (B (o163 p P) L L) L)) (B (o51 p P) (B (o83 p P) (B (o147 p P) L L) L) (B (o115 p P) (B (o179 p P) L L) L))) (B (o27 p P) (B (o43 p P) (B (o75 p P) (B (o139 p P) L L) (B (o203 p P) L L)) (B (o107 p P) (B (o171 p P) L L) L)) (B (o59 p P) (B (o91 p P) (B (o155 p P) L L) L) (B (o123 p P) (B (o187 p P) L L) L))))) (B (b5 p P) (B (b9 p P) (B (o17 p P) (B (o33 p P) (B (o65 p P) (B (o129 p P) L L) (B (o193 p P) L L)) (B (o97 p P) (B (o161 p P) L L) L)) (B (o49 p P) (B (o81 p P) (B (o145 p P) L L) L) (B (o113 p P) (B (o177 p P) L L) L))) (B (o25 p P) (B (o41 p P) (B (o73 p P) (B (o137 p P) L L) (B (o201 p P) L L)) (B (o105 p P) (B (o169 p P) L L) L)) (B (o57 p P) (B (o89 p P) (B (o153 p P) L L) L) (B (o121 p P) (B (o185 p P) L L) L)))) (B (a13 p P) (B (o21 p P) (B (o37 p P) (B (o69 p P) (B (o133 p P) L L) (B (o197 p P) L L)) (B (o101 p P) (B (o165 p P) L L) L)) (B (o53 p P) (B (o85 p P) (B (o149 p P) L L) L) (B (o117 p P) (B (o181 p P) L L) L))) (B (o29 p P) (B (o45 p P) (B (o77 p P) (B (o141 p P) L L) (B (o205 p P) L L)) (B (o109 p P) (B (o173 p P) L L) L)) (B (o61 p P) (B (o93 p P) (B (o157 p P) L L) L) (B (o125 p P) (B (o189 p P) L L) L)))))) (B (b2 p P) (B (b4 p P) (B (b8 p P) (B (o16 p P) (B (o32 p P) (B (o64 p P) (B (o128 p P) L L) (B (o192 p P) L L)) (B (o96 p P) (B (o160 p P) L L) L)) (B (o48 p P) (B (o80 p P) (B (o144 p P) L L) L) (B (o112 p P) (B (o176 p P) L L) L))) (B (o24 p P) (B (o40 p P) (B (o72 p P) (B (o136 p P) L L) (B (o200 p P) L L)) (B (o104 p P) (B (o168 p P) L L) L)) (B (o56 p P) (B (o88 p P) (B (o152 p P) L L) L) (B (o120 p P) (B (o184 p P) L L) L)))) (B (o12 p P) (B (o20 p P) (B (o36 p P) (B (o68 p P) (B (o132 p P) L L) (B (o196 p P) L L)) (B (o100 p P) (B (o164 p P) L L) L)) (B (o52 p P) (B (o84 p P) (B (o148 p P) L L) L) (B (o116 p P) (B (o180 p P) L L) L))) (B (o28 p P) (B (o44 p P) (B (o76 p P) (B (o140 p P) L L) (B (o204 p P) L L)) (B (o108 p P) (B (o172 p P) L L) L)) (B (o60 p P) (B (o92 p P) (B (o156 p P) L L) L) (B (o124 p P) (B (o188 p P) L L) L))))) (B (b6 p P) (B (b10 p P) (B (o18 p P) (B (o34 p P) (B (o66 p P) (B (o130 p P) L L) (B (o194 p P) L L)) (B (o98 p P) (B (o162 p P) L L) L)) (B (o50 p P) (B (o82 p P) (B (o146 p P) L L) L) (B (o114 p P) (B (o178 p P) L L) L))) (B (o26 p P) (B (o42 p P) (B (o74 p P) (B (o138 p P) L L) (B (o202 p P) L L)) (B (o106 p P) (B (o170 p P) L L) L)) (B (o58 p P) (B (o90 p P) (B (o154 p P) L L) L) (B (o122 p P) (B (o186 p P) L L) L)))) (B (a14 p P) (B (o22 p P) (B (o38 p P) (B (o70 p P) (B (o134 p P) L L) (B (o198 p P) L L)) (B (o102 p P) (B (o166 p P) L L) L)) (B (o54 p P) (B (o86 p P) (B (o150 p P) L L) L) (B (o118 p P) (B (o182 p P) L L) L))) (B (o30 p P) (B (o46 p P) (B (o78 p P) (B (o142 p P) L L) (B (o206 p P) L L)) (B (o110 p P) (B (o174 p P) L L) L)) (B (o62 p P) (B (o94 p P) (B (o158 p P) L L) L) (B (o126 p P) (B (o190 p P) L L) L)))))))
noncomputable def ks : List Nat := [nat_lit 2,nat_lit 3,nat_lit 15,nat_lit 17,nat_lit 18,nat_lit 20,nat_lit 21,nat_lit 22,nat_lit 29,nat_lit 30,nat_lit 31,nat_lit 32,nat_lit 35,nat_lit 42,nat_lit 43,nat_lit 44,nat_lit 47,nat_lit 54,nat_lit 55,nat_lit 56,nat_lit 59,nat_lit 61,nat_lit 62,nat_lit 64,nat_lit 65,nat_lit 66,nat_lit 69,nat_lit 70,nat_lit 71,nat_lit 73,nat_lit 74,nat_lit 76,nat_lit 77,nat_lit 78,nat_lit 81,nat_lit 82,nat_lit 83,nat_lit 85,nat_lit 86,nat_lit 88,nat_lit 89,nat_lit 90,nat_lit 92,nat_lit 93,nat_lit 95,nat_lit 96,nat_lit 97,nat_lit 99,nat_lit 100,nat_lit 102,nat_lit 103,nat_lit 104,nat_lit 106,nat_lit 107,nat_lit 109,nat_lit 110,nat_lit 118,nat_lit 119,nat_lit 121,nat_lit 122,nat_lit 124,nat_lit 125,nat_lit 126,nat_lit 128,nat_lit 129,nat_lit 131,nat_lit 132,nat_lit 133,nat_lit 135,nat_lit 136,nat_lit 138,nat_lit 139,nat_lit 140,nat_lit 141,nat_lit 142,nat_lit 143,nat_lit 144,nat_lit 147,nat_lit 149,nat_lit 150,nat_lit 152,nat_lit 153,nat_lit 154,nat_lit 156,nat_lit 157,nat_lit 159,nat_lit 160,nat_lit 161,nat_lit 163,nat_lit 164,nat_lit 166,nat_lit 167,nat_lit 168,nat_lit 170,nat_lit 171,nat_lit 173,nat_lit 174,nat_lit 175,nat_lit 177,nat_lit 178,nat_lit 180,nat_lit 181,nat_lit 182,nat_lit 184,nat_lit 185,nat_lit 187,nat_lit 188,nat_lit 189,nat_lit 191,nat_lit 192,nat_lit 194,nat_lit 195,nat_lit 196,nat_lit 199,nat_lit 200,nat_lit 201,nat_lit 203,nat_lit 204,nat_lit 206,nat_lit 207]
noncomputable def Kp (p : Program) (P : Params) : Frag := ks.map fun a => (a, (Lf p P).getD a default)
noncomputable def K (P : Params) : Frag := (nat_lit 2,b2 pw P)::(nat_lit 3,o3 pw P)::(nat_lit 15,o15 pw P)::(nat_lit 17,o17 pw P)::(nat_lit 18,o18 pw P)::(nat_lit 20,o20 pw P)::(nat_lit 21,o21 pw P)::(nat_lit 22,o22 pw P)::(nat_lit 29,o29 pw P)::(nat_lit 30,o30 pw P)::(nat_lit 31,o31 pw P)::(nat_lit 32,o32 pw P)::(nat_lit 35,o35 pw P)::(nat_lit 42,o42 pw P)::(nat_lit 43,o43 pw P)::(nat_lit 44,o44 pw P)::(nat_lit 47,o47 pw P)::(nat_lit 54,o54 pw P)::(nat_lit 55,o55 pw P)::(nat_lit 56,o56 pw P)::(nat_lit 59,o59 pw P)::(nat_lit 61,o61 pw P)::(nat_lit 62,o62 pw P)::(nat_lit 64,o64 pw P)::(nat_lit 65,o65 pw P)::(nat_lit 66,o66 pw P)::(nat_lit 69,o69 pw P)::(nat_lit 70,o70 pw P)::(nat_lit 71,o71 pw P)::(nat_lit 73,o73 pw P)::(nat_lit 74,o74 pw P)::(nat_lit 76,o76 pw P)::(nat_lit 77,o77 pw P)::(nat_lit 78,o78 pw P)::(nat_lit 81,o81 pw P)::(nat_lit 82,o82 pw P)::(nat_lit 83,o83 pw P)::(nat_lit 85,o85 pw P)::(nat_lit 86,o86 pw P)::(nat_lit 88,o88 pw P)::(nat_lit 89,o89 pw P)::(nat_lit 90,o90 pw P)::(nat_lit 92,o92 pw P)::(nat_lit 93,o93 pw P)::(nat_lit 95,o95 pw P)::(nat_lit 96,o96 pw P)::(nat_lit 97,o97 pw P)::(nat_lit 99,o99 pw P)::(nat_lit 100,o100 pw P)::(nat_lit 102,o102 pw P)::(nat_lit 103,o103 pw P)::(nat_lit 104,o104 pw P)::(nat_lit 106,o106 pw P)::(nat_lit 107,o107 pw P)::(nat_lit 109,o109 pw P)::(nat_lit 110,o110 pw P)::(nat_lit 118,o118 pw P)::(nat_lit 119,o119 pw P)::(nat_lit 121,o121 pw P)::(nat_lit 122,o122 pw P)::(nat_lit 124,o124 pw P)::(nat_lit 125,o125 pw P)::(nat_lit 126,o126 pw P)::(nat_lit 128,o128 pw P)::(nat_lit 129,o129 pw P)::(nat_lit 131,o131 pw P)::(nat_lit 132,o132 pw P)::(nat_lit 133,o133 pw P)::(nat_lit 135,o135 pw P)::(nat_lit 136,o136 pw P)::(nat_lit 138,o138 pw P)::(nat_lit 139,o139 pw P)::(nat_lit 140,o140 pw P)::(nat_lit 141,o141 pw P)::(nat_lit 142,o142 pw P)::(nat_lit 143,o143 pw P)::(nat_lit 144,o144 pw P)::(nat_lit 147,o147 pw P)::(nat_lit 149,o149 pw P)::(nat_lit 150,o150 pw P)::(nat_lit 152,o152 pw P)::(nat_lit 153,o153 pw P)::(nat_lit 154,o154 pw P)::(nat_lit 156,o156 pw P)::(nat_lit 157,o157 pw P)::(nat_lit 159,o159 pw P)::(nat_lit 160,o160 pw P)::(nat_lit 161,o161 pw P)::(nat_lit 163,o163 pw P)::(nat_lit 164,o164 pw P)::(nat_lit 166,o166 pw P)::(nat_lit 167,o167 pw P)::(nat_lit 168,o168 pw P)::(nat_lit 170,o170 pw P)::(nat_lit 171,o171 pw P)::(nat_lit 173,o173 pw P)::(nat_lit 174,o174 pw P)::(nat_lit 175,o175 pw P)::(nat_lit 177,o177 pw P)::(nat_lit 178,o178 pw P)::(nat_lit 180,o180 pw P)::(nat_lit 181,o181 pw P)::(nat_lit 182,o182 pw P)::(nat_lit 184,o184 pw P)::(nat_lit 185,o185 pw P)::(nat_lit 187,o187 pw P)::(nat_lit 188,o188 pw P)::(nat_lit 189,o189 pw P)::(nat_lit 191,o191 pw P)::(nat_lit 192,o192 pw P)::(nat_lit 194,o194 pw P)::(nat_lit 195,o195 pw P)::(nat_lit 196,o196 pw P)::(nat_lit 199,o199 pw P)::(nat_lit 200,o200 pw P)::(nat_lit 201,o201 pw P)::(nat_lit 203,o203 pw P)::(nat_lit 204,o204 pw P)::(nat_lit 206,o206 pw P)::(nat_lit 207,o207 pw P)::[]
noncomputable def keep : List Nat := [0, 2, 3, 4, 6, 7, 8, 10, 11, 13, 14, 15, 16, 17, 18, 19, 20, 22, 23, 24, 25, 26, 27, 28, 29, 30]
noncomputable def loose : List Str := []
noncomputable def env (p : Program) : Env := { scope := p.main.scope, locals := mainNs, globals := mainNs, cells := [], code := (R 13), frame := some 14 }
noncomputable def cE (p : Program) : Code := .body (behindTheImports p) (env p)
noncomputable def qP : Pos := ⟨0,0,0,0⟩
noncomputable def pP : Pos := ⟨0,0,0,0⟩
noncomputable def bP : Pos := ⟨0,0,0,0⟩
noncomputable def fP : Pos := ⟨160,0,185,104⟩
noncomputable def an : Option Value := (some (R 6))
noncomputable abbrev lawAt : Nat := 30
noncomputable abbrev m0 : Nat := 11
noncomputable abbrev nF : Nat := 208
noncomputable abbrev sPre : Nat := 12
noncomputable abbrev sBlk : Nat := 1
noncomputable abbrev sRun : Nat := 1562
noncomputable abbrev sFin : Nat := 2
noncomputable abbrev nAll : Nat := 3848
noncomputable abbrev nA : Nat := 15
noncomputable abbrev tkA : Nat := 187
noncomputable abbrev tkB : Nat := 187
noncomputable abbrev tkM : Nat := 491
noncomputable abbrev tkF : Nat := 491
end
end HD
namespace HD
open PySem PySem.W PyProof.Rows L2
noncomputable section
abbrev S0 (w : World) (os : OsState) : Shared := ⟨boot_heap w.params, ⟨[]⟩, boot_drawn, boot_toks, os⟩
abbrev Sa (p : Program) (w : World) (os : OsState) : Shared := ⟨⟨⟨La p w.params⟩, {}⟩, ⟨[]⟩, {}, tkA, os⟩
abbrev Sb (p : Program) (w : World) (os : OsState) : SharedT := ⟨Ta p w.params, nA, {}, ⟨[]⟩, {}, tkB, os⟩
abbrev Sm (p : Program) (w : World) (os : OsState) : SharedT := ⟨Tf p w.params, nF, {}, ⟨[]⟩, {}, tkM, os⟩
abbrev H1 (p : Program) (P : Params) : Heap := ⟨⟨Lf p P⟩, {}⟩
abbrev Sf (p : Program) (w : World) (os : OsState) : Shared := ⟨H1 p w.params, ⟨[]⟩, {}, tkF, os⟩
abbrev q (p : Program) : Program := view p keep
abbrev Xt (p : Program) (R : WRecords) : Shared → Bool := fun s => xlAt (q p) [] s && recOk R s
theorem l_pre (w : World) (os : OsState) : topGo treeTable pq w m0 an sPre (S0 w os) (topStub pq) = some (Sa pq w os, ⟨denote treeTable (cE pq), cE pq, pP, [topFrame qP]⟩) := by
  rewrite [Fast.te15667345088766844465, Fast.te14364793385576792824, Fast.te11892475500146522536]; kernel_rfl
theorem l_blk (w : World) (os : OsState) : segRun treeTable pq w m0 an 1 sBlk (Sa pq w os) (blockOf (behindTheImports pq) (env pq) (cE pq) pP [topFrame qP]) = some (.next, (Sb pq w os).abs, cE pq, bP) := by
  rewrite [Fast.te14374325043358763698, Fast.te14364793385576792824]; kernel_rfl
theorem l_run (w : World) (os : OsState) : segRunT treeTable pq w m0 an 1 sRun (Sb pq w os) (piecesOf (behindTheImports pq) (env pq) (cE pq) bP [topFrame qP]) = some (.next, Sm pq w os, cE pq, fP) := by
  rewrite [Fast.te10110043849684766642, Fast.te14364793385576792824]; kernel_rfl
theorem l_fin (w : World) (os : OsState) : topRun treeTable pq w m0 an sFin (Sm pq w os).abs ⟨doneF .next, cE pq, fP, [topFrame qP]⟩ = some (Sf pq w os) := by
  rewrite [Fast.te14082659384304107361, Fast.te14364793385576792824]; kernel_rfl
end
end HD
namespace HD
open PySem PySem.W PyProof.Rows L2
noncomputable section
theorem l_size (w : World) : ((boot_heap w.params).isNs mainGlobals && (⟨[]⟩ : Array GenState).size == 0, (boot_heap w.params).objs.size, (boot_heap w.params).nsMap mainGlobals "__annotations__") = (true, m0, an) := by
  rewrite [Fast.te8920871248978507458]; kernel_rfl
theorem l_open : ∀ w : World, (fencedOpening treeTable pq w nAll).map (fun s => (s.heap, s.gens, s.drawn, s.toks)) = some (boot_heap w.params, ⟨[]⟩, boot_drawn, boot_toks) :=
  boot_open (by kernel_rfl) (by kernel_rfl) (fun s => by kernel_rfl)
theorem l_top (w : World) (os : OsState) : topRun treeTable pq w m0 an (sPre + (sBlk + (sRun + sFin))) (S0 w os) (topStub pq) = some (Sf pq w os) := by
  refine go_top (l_pre w os) (piece_block (l_blk w os) ?_)
  have h := piece_app (rest := []) (segRun_of (l_run w os)) (piece_nil (env := env pq) (l_fin w os))
  rw [List.append_nil] at h
  exact h
section
variable (w : World) (os : OsState)
theorem k_a : (staticsOk (importedModules pq.main.body) (boot_heap w.params) (H1 pq w.params) && namesBound pq (H1 pq w.params) && gensDone (Sf pq w os) && laidKept (boot_heap w.params) (H1 pq w.params)) = true := by
  rewrite [Fast.te5923862056798008813]; kernel_rfl
theorem k_b : seen ((recsOf (q pq)).map (·.name)) (ownsOf (q pq)) [] { Sf pq w os with gens := #[] } = expectedOf (q pq) := by
  rewrite [Fast.te5160383126252970620, Fast.te3399658132070893891, Fast.te5991557255702980513]; kernel_rfl
theorem k_c : (Sf pq w os).heap.bltView = bltViewBooted := by kernel_rfl
theorem k_d : ((Sf pq w os).heap.keysOk (looseW (q pq) loose) ((recsOf (q pq)).map (·.name)) ((litsOf (q pq)).map (·.1)) ((clssOf (q pq) (looseW (q pq) loose)).map (·.name)) && (Sf pq w os).heap.accountedOkI (importedModules pq.main.body) && (Sf pq w os).heap.isNs mainGlobals && (Sf pq w os).heap.isNs builtinsNs && tablesOk (q pq) (Sf pq w os).heap && Xt pq [] (Sf pq w os) && (if true then (Sf pq w os).gens.size == 0 else !leftWithCleanup (Sf pq w os).gens)) = true := by
  rewrite [Fast.te10880121769531294198, Fast.te821141287760084731, Fast.te3399658132070893891, Fast.te7409074990110511671, Fast.te13664370479719496447, Fast.te14722251495701143533, Fast.te5923862056798008813, Fast.te10994771534591457954]; kernel_rfl
theorem k_e : tabsOk (q pq) (Sf pq w os) = true := by rewrite [Fast.te479339242167458305]; kernel_rfl
theorem k_f : pinSeenD (q pq) (drecsOf (q pq)) (Sf pq w os) = pinGoodD (drecsOf (q pq)) := by rewrite [Fast.te16090120013241838585, Fast.te3247288618530077131]; kernel_rfl
theorem k_g : plainSeenE (q pq) (looseW (q pq) loose) (Sf pq w os) = plainGoodE (q pq) (looseW (q pq) loose) := by rewrite [Fast.te2386780881361962483, Fast.te821141287760084731]; kernel_rfl
theorem k_h : plainSeenD (q pq) loose (Sf pq w os) = plainGoodD (q pq) loose := by rewrite [Fast.te11698064438423848299]; kernel_rfl
theorem k_i : wideSeen (q pq) (Sf pq w os) = wideGood (q pq) := by rewrite [Fast.te7317090234206586261]; kernel_rfl
theorem k_j : clsSeenW (q pq) loose (Sf pq w os) = clsGoodW (q pq) loose := by rewrite [Fast.te7369524293546568484]; kernel_rfl
theorem k_k : ks.map (Sf pq w os).heap.get? = (Kp pq w.params).map fun p => some p.2 := by kernel_rfl
end
theorem left (p : Program) (e : p = pq) : LeftO p (q p) loose (Xt p []) (fun s => ks.map s.heap.get?) (fun w => (Kp p w.params).map fun p => some p.2) nAll := by
  subst e
  exact LeftO.of_pieces l_open l_size l_top (by decide) fun w => funext fun os => looks_pair (k_a w os) (looks_pair (looks_pair (k_b w os) (looks_pair (k_c w os) (looks_pair (k_d w os) (looks_pair (k_e w os) (looks_pair (k_f w os) (looks_pair (k_g w os) (looks_pair (k_h w os) (looks_pair (k_i w os) (k_j w os))))))))) (k_k w os))
theorem kk : K = Kp pw := by funext P; kernel_rfl
theorem ke : ∀ P, ks = (K P).map (·.1) := fun _ => by kernel_rfl
end
end HD
namespace HD
open PySem PySem.W PyProof.Rows L2
noncomputable section
def d : DefRec := match tp pw lawAt with
  | .FunctionDef n a b _ _ _ sc _ _ ps => ⟨n, a, b, sc, ps⟩
  | _ => ⟨Str.empty, defArgs (tp pw 0), [], defScope (tp pw 0), default⟩
abbrev hk : Hook := kHook K ks ke
theorem leftw : LeftO pw (q pw) loose (Xt pw []) (Hook.obs hk) (Hook.val hk) nAll := by
  have h := left pw pwq
  rw [← kk] at h
  exact h
end
end HD

open PySem PySem.W PyProof.Rows
set_option maxRecDepth 100000 in
set_option maxHeartbeats 0 in
theorem PySem.Challenge.cw_quotefind_k34_near_stretches_holds : PySem.Challenge.rw_quotefind_k34_near_stretches.Holds := by
  w_on; o_law
  refine holds_open (q := HD.q HD.pw) (loose := HD.loose) (Xt := HD.Xt HD.pw []) (XP := XL (HD.q HD.pw) []) (Yf := Hook.obs (kHook HD.K HD.ks HD.ke)) (Ya := Hook.val (kHook HD.K HD.ks HD.ke)) (YP := Hook.says (kHook HD.K HD.ks HD.ke)) (d := HD.d) (kwd := []) (N := HD.nAll) HD.leftw (Hook.of (kHook HD.K HD.ks HD.ke)) (Hook.keeps (kHook HD.K HD.ks HD.ke)) (fun s e => xl_of s (Bool.and_eq_true_iff.mp e).1) XL.keeps (by kernel_rfl) (by kernel_rfl) (by kernel_rfl) (fun s e => recFacts_of (Bool.and_eq_true_iff.mp e).2) (by rfl) (by assumption) (by decide +kernel) ⟨rfl, rfl, rfl, rfl, rfl, by decide +kernel⟩ ?hw ?hc
  (case hw => w_witness2)
  k_fill
  refine K34.walk (l := PySem.Challenge.rw_quotefind_k34_near_stretches) rfl rfl (fun w h Y => PySem.W.kIn_of Y) ?F
  case F =>
    intro w mg fa h KX G hmg
    refine' K34.all_mk KX G hmg ?g_Terms ?a_is_small_letter ?l_is_small_letter ?c_is_small_letter ?k_is_small_letter ?a_is_word ?l_is_word ?c_is_word ?k_is_word ?a_is_between ?l_is_between ?c_is_between ?k_is_between ?a_check_number ?l_check_number ?c_check_number ?k_check_number ?a_check_near_form ?l_check_near_form ?c_check_near_form ?k_check_near_form ?a_near_prices ?l_near_prices ?c_near_prices ?k_near_prices ?a_Terms___init__ ?i_Terms___init__ ?l_Terms___init__ ?c_Terms___init__ ?k_Terms___init__ ?dv_Terms___init__ ?a_Terms_pair_worth ?i_Terms_pair_worth ?l_Terms_pair_worth ?c_Terms_pair_worth ?k_Terms_pair_worth ?a_is_answer ?l_is_answer ?c_is_answer ?k_is_answer ?a_near_stretches ?l_near_stretches ?c_near_stretches ?k_near_stretches ?a__law_at ?l__law_at ?c__law_at ?k__law_at ?a__law_whole ?l__law_whole ?c__law_whole ?k__law_whole ?a__law_bank ?l__law_bank ?c__law_bank ?k__law_bank ?a__law_book ?l__law_book ?c__law_book ?k__law_book ?a__law_near ?l__law_near ?c__law_near ?k__law_near ?a__law_pairs ?l__law_pairs ?c__law_pairs ?k__law_pairs ?a__law_texts ?l__law_texts ?c__law_texts ?k__law_texts ?a__law_stretches ?l__law_stretches ?c__law_stretches ?k__law_stretches ?a_law ?l_law ?c_law ?k_law ?gp_Terms ?gh_Terms ?go_Terms ?gs_Terms ?gm_Terms ?gk_Terms ?na_Terms_same ?na_Terms_out ?na_Terms_into ?na_Terms_least ?na_Terms_part ?na_Terms_near ?na_Terms_prices ?z_len ?z_range ?z_isinstance ?z_int ?z_bool ?z_str ?z_list ?z_tuple ?z_dict ?z_all ?z_any ?z_min ?z_max ?z_enumerate ?z_ValueError ?y_WORD_MOST ?y_WORTH_MOST ?y_NEAR_MOST ?y_PART_MOST ?x_BadTerms ?xe_BadTerms ?xc_BadTerms ?xo_BadTerms ?xb_BadTerms ?xg_BadTerms ?xn_BadTerms ?xt_BadTerms ?xk_BadTerms ?x_BadNear ?xe_BadNear ?xc_BadNear ?xo_BadNear ?xb_BadNear ?xg_BadNear ?xn_BadNear ?xt_BadNear ?xk_BadNear ?z_zip
    (case g_Terms => k_is)
    (case a_is_small_letter => k_is)
    (case l_is_small_letter => k_is)
    (case c_is_small_letter => k_is)
    (case k_is_small_letter => k_is)
    (case a_is_word => k_is)
    (case l_is_word => k_is)
    (case c_is_word => k_is)
    (case k_is_word => k_is)
    (case a_is_between => k_is)
    (case l_is_between => k_is)
    (case c_is_between => k_is)
    (case k_is_between => k_is)
    (case a_check_number => k_is)
    (case l_check_number => k_is)
    (case c_check_number => k_is)
    (case k_check_number => k_is)
    (case a_check_near_form => k_is)
    (case l_check_near_form => k_is)
    (case c_check_near_form => k_is)
    (case k_check_near_form => k_is)
    (case a_near_prices => k_is)
    (case l_near_prices => k_is)
    (case c_near_prices => k_is)
    (case k_near_prices => k_is)
    (case a_Terms___init__ => k_is)
    (case i_Terms___init__ => k_is)
    (case l_Terms___init__ => k_is)
    (case c_Terms___init__ => k_is)
    (case k_Terms___init__ => k_is)
    (case dv_Terms___init__ => k_is)
    (case a_Terms_pair_worth => k_is)
    (case i_Terms_pair_worth => k_is)
    (case l_Terms_pair_worth => k_is)
    (case c_Terms_pair_worth => k_is)
    (case k_Terms_pair_worth => k_is)
    (case a_is_answer => k_is)
    (case l_is_answer => k_is)
    (case c_is_answer => k_is)
    (case k_is_answer => k_is)
    (case a_near_stretches => k_is)
    (case l_near_stretches => k_is)
    (case c_near_stretches => k_is)
    (case k_near_stretches => k_is)
    (case a__law_at => k_is)
    (case l__law_at => k_is)
    (case c__law_at => k_is)
    (case k__law_at => k_is)
    (case a__law_whole => k_is)
    (case l__law_whole => k_is)
    (case c__law_whole => k_is)
    (case k__law_whole => k_is)
    (case a__law_bank => k_is)
    (case l__law_bank => k_is)
    (case c__law_bank => k_is)
    (case k__law_bank => k_is)
    (case a__law_book => k_is)
    (case l__law_book => k_is)
    (case c__law_book => k_is)
    (case k__law_book => k_is)
    (case a__law_near => k_is)
    (case l__law_near => k_is)
    (case c__law_near => k_is)
    (case k__law_near => k_is)
    (case a__law_pairs => k_is)
    (case l__law_pairs => k_is)
    (case c__law_pairs => k_is)
    (case k__law_pairs => k_is)
    (case a__law_texts => k_is)
    (case l__law_texts => k_is)
    (case c__law_texts => k_is)
    (case k__law_texts => k_is)
    (case a__law_stretches => k_is)
    (case l__law_stretches => k_is)
    (case c__law_stretches => k_is)
    (case k__law_stretches => k_is)
    (case a_law => k_is)
    (case l_law => k_is)
    (case c_law => k_is)
    (case k_law => k_is)
    (case gp_Terms => k_is)
    (case gh_Terms => k_is)
    (case go_Terms => k_is)
    (case gs_Terms => k_is)
    (case gm_Terms => k_is)
    (case gk_Terms => k_is)
    (case na_Terms_same => k_is)
    (case na_Terms_out => k_is)
    (case na_Terms_into => k_is)
    (case na_Terms_least => k_is)
    (case na_Terms_part => k_is)
    (case na_Terms_near => k_is)
    (case na_Terms_prices => k_is)
    (case z_len => k_is)
    (case z_range => k_is)
    (case z_isinstance => k_is)
    (case z_int => k_is)
    (case z_bool => k_is)
    (case z_str => k_is)
    (case z_list => k_is)
    (case z_tuple => k_is)
    (case z_dict => k_is)
    (case z_all => k_is)
    (case z_any => k_is)
    (case z_min => k_is)
    (case z_max => k_is)
    (case z_enumerate => k_is)
    (case z_ValueError => k_is)
    (case y_WORD_MOST => k_is)
    (case y_WORTH_MOST => k_is)
    (case y_NEAR_MOST => k_is)
    (case y_PART_MOST => k_is)
    (case x_BadTerms => k_is)
    (case xe_BadTerms => k_exc)
    (case xc_BadTerms => k_is)
    (case xo_BadTerms => k_is)
    (case xb_BadTerms => k_is)
    (case xg_BadTerms => k_is)
    (case xn_BadTerms => k_is)
    (case xt_BadTerms => k_is)
    (case xk_BadTerms => k_is)
    (case x_BadNear => k_is)
    (case xe_BadNear => k_exc)
    (case xc_BadNear => k_is)
    (case xo_BadNear => k_is)
    (case xb_BadNear => k_is)
    (case xg_BadNear => k_is)
    (case xn_BadNear => k_is)
    (case xt_BadNear => k_is)
    (case xk_BadNear => k_is)
    (case z_zip => k_is)
#print axioms PySem.Challenge.cw_quotefind_k34_near_stretches_holds
